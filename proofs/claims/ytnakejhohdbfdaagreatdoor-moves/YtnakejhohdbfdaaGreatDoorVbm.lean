import Derived.Test.YtnakejhohdbfdaaGreatDoorVbl
set_option maxHeartbeats 4000000
set_option maxRecDepth 10000
namespace Go.Proofs.YtnakejhohdbfdaaGreatDoor
open Go.RowKit jN Lay uS Go.Proofs.Tryz
theorem NQ (s:ByteArray)(b:Int)(vW vB:Value)(W Br:List Int)(n:Nat)(w:World)(hF:Floor w)(hend:gJ.Ends s n)(hW:mT w vW W)(hB:mT w vB Br)(tJ:W.length<=5000)(hBl:Br.length<=5000)(hck:tu s n (iY s n) b W Br=0)
 (Bd V X:List Int) (r bs:Int) (Cs:List (Int × Int × Int × Int)) (Ls:List Ln) (T:Twin s b W Br Bd V X r bs Cs Ls) :
 Calls prog 14 #[.agg #[.string s,.int .i64 b,vW,vB]] w fun e w'=>∃Q lb,e=.returned (.tuple #[.pointer (some ⟨Q,0,none⟩),.pointer (some ⟨lb,0,none⟩),.bool true]) /\
  Hid (∃P B v0 v1 v2 vL hs,w'.heap[Q]?=some (.cells #[.pointer (some ⟨P,0,none⟩)] 111 (0,0))/\LP w' B P Bd V X r Ls v0 v1 v2 vL hs)/\Hid (∃WB vC vM hm,LD WB w' w'.heap.size lb s bs vC vM Cs Ls hm)/\Fr [] w w':=by
 obtain⟨aW,xG,rfl,_⟩:=id hW;obtain⟨aB,cB0,rfl,_⟩:=id hB;obtain⟨wb,hwb⟩:∃wb,wb=w.alloc (.cells #[.string s,.int .i64 b,.slice aW W.length xG,.slice aB Br.length cB0] 35):=⟨_,rfl⟩;have nD:=hid (show Fr [] w wb by rw[hwb];exact(Fr.refl [] w).alloc _);have Lg:=hid (show wb.heap[w.heap.size]?=some (.cells #[.string s,.int .i64 b,.slice aW W.length xG,.slice aB Br.length cB0] 35 (0,0)) by rw[hwb];exact fU w _);have Y7:=hid (Di s b _ _ W Br wb (hW.fr nD.out) (hB.fr nD.out) tJ hBl);have Ag:=hid (fun(X:World) (hf:Fr [] w X)=>hF.fr hf);have HW:=hid hW;have HB:=hid hB;have Ov:=hid (fun(X:World) (hf:Fr [] w X)=>Lc s b _ _ W Br n X (hF.fr hf).u hend (hW.at.fr hf) tJ (hB.at.fr hf) hBl);have HIW:=hid (fun(X:World) (hf:Fr [] w X) v (hv:mA X v W)=>vD W v _ X hv (hW.at.fr hf) (by omega));have PR:=hid (fun(X:World) (hf:Fr [] w X) v (hv:mA X v Br)=>vD Br v _ X hv (hB.at.fr hf) (by omega));rw[hck]at Ov;have HTP:=hid T.p;have Ws:=hid T.d;obtain⟨nW,Jn⟩:∃nW,nW=W.length:=⟨_,rfl⟩;obtain⟨nB,yK⟩:∃nB,nB=Br.length:=⟨_,rfl⟩;have Oo:=hid Jn;have sU:=hid yK;rw[<-Jn]at Lg Y7 HIW Ov hwb tJ ⊢;rw[<-yK]at Lg Y7 PR Ov hwb hBl ⊢;have HT:=hid T;clear hW hB hF hend Jn yK hck T;go_enter func14,ntmps14;go_wp2_with fail;rw[<-hwb];clear hwb;refine Y7.out.mono ?_;rintro e w1 ⟨gW,cW,gB,cB,rfl,Ka,ownB,hgg,hf1⟩;obtain⟨w2,hw2⟩:∃w2,w2=w1.alloc (.cells #[.string s,.int .i64 b,.slice (some ⟨gW,0,none⟩) nW cW,.slice (some ⟨gB,0,none⟩) nB cB] 35):=⟨_,rfl⟩;have f_:=hid (show Fr [] w w2 by rw[hw2];exact(nD.out.trans hf1).alloc _);have kT:=hid (show w2.heap[w.heap.size]?=some (.cells #[.string s,.int .i64 b,.slice aW nW xG,.slice aB nB cB0] 35 (0,0)) by rw[hw2];exact fO Lg.out (hf1.alloc _) af);have qZ:=hid (show w2.heap[w1.heap.size]?=some (.cells #[.string s,.int .i64 b,.slice (some ⟨gW,0,none⟩) nW cW,.slice (some ⟨gB,0,none⟩) nB cB] 35 (0,0)) by rw[hw2];exact fU w1 _)
 have DB:=hid (show mT w2 (.slice (some ⟨gW,0,none⟩) nW cW) W by
  have h:=fS (w':=w2) Ka (by rw[hw2];exact(Fr.refl [] _).alloc _)
  rw[Oo.out]at h ⊢
  exact Bf h)
 have Is:=hid (show mT w2 (.slice (some ⟨gB,0,none⟩) nB cB) Br by
  have h:=fS (w':=w2) ownB (by rw[hw2];exact(Fr.refl [] _).alloc _)
  rw[sU.out]at h ⊢
  exact Bf h)
 have H52:=hid (NH #[.string s,.int .i64 b,.slice (some ⟨gW,0,none⟩) nW cW,.slice (some ⟨gB,0,none⟩) nB cB] s b (some ⟨gW,0,none⟩) (some ⟨gB,0,none⟩) nW cW nB cB w2 rfl Bd V X r Ls
  (fun w' hf=>HTP.out w' _ _ (Ag.out w' (f_.out.trans hf)) (DB.out.at.fr hf) (Is.out.fr hf)))
 have HOW:=hid (show w2.ownsRow wb.heap.size 3 1 (.slice (some ⟨gW,0,none⟩) nW cW) nW (gu W) by rw[hw2];exact Ka.alloc _);have qy:=hid (show w2.ownsRow wb.heap.size 3 1 (.slice (some ⟨gB,0,none⟩) nB cB) nB (gu Br) by rw[hw2];exact ownB.alloc _);have hgW:=fZ Ka;have hgB:=fZ ownB;have Cn:w.heap.size<wb.heap.size:=h_ Lg.out;have acn:w2.heap.size=w1.heap.size+1:=by rw[hw2];simp
 have ZR:=hid hw2;have hw1:w.heap.size<w1.heap.size:=by have:=h_ Lg.out;have:=hf1.size;omega
 clear Ka ownB hf1 hw2;go_wp2_with fail;rw[<-ZR.out];refine H52.out.mono ?_;rintro e w3 ⟨Q,P,v0,v1,v2,vL,hs3,rfl,hQ,hQ0,hLP,hf3⟩;have HQ:=hid hQ;have Oq:=hid hLP;have hQl:=h_ hQ;have iO:=hid (f_.out.trans hf3);have AW:=hid (fO kT.out hf3 af);have Ic:=hid (fO qZ.out hf3 af);have k2:=fN AW.out (i:=2) (v:=.slice aW nW xG) rfl;have k3:=fN AW.out (i:=3) (v:=.slice aB nB cB0) rfl;have j2:=fN Ic.out (i:=2) (v:=.slice (some ⟨gW,0,none⟩) nW cW) rfl;have j3:=fN Ic.out (i:=3) (v:=.slice (some ⟨gB,0,none⟩) nB cB) rfl;have Y8:=hid (Is.out.at.fr hf3);have H12:=hid (HIW.out w3 iO.out _ (DB.out.at.fr hf3));have UG:=hid (fS HOW.out hf3);have wX:=hid (fS qy.out hf3);have tA:=hid hf3;clear hf3 H52 hQ hLP;go_wp2_with fail;refine H12.out.mono ?_;rintro e w4 ⟨rfl,jl⟩;have gP:=hid (iO.out.trans jl);have SK:=hid (fO AW.out jl af);have Y9:=hid (fO Ic.out jl af);have k3:=fN SK.out (i:=3) (v:=.slice aB nB cB0) rfl;have j3:=fN Y9.out (i:=3) (v:=.slice (some ⟨gB,0,none⟩) nB cB) rfl;have SL:=hid (PR.out w4 gP.out _ (Y8.out.fr jl));have ag1:=hid jl;clear jl H12;go_wp2_with fail;refine SL.out.mono ?_;rintro e w5 ⟨rfl,jC⟩;have jP:=hid (gP.out.trans jC);have DZ:=hid (fO SK.out jC af);have l0:=fN DZ.out (i:=0) (v:=.string s) rfl;have l1:=fN DZ.out (i:=1) (v:=.int .i64 b) rfl;have l2:=fN DZ.out (i:=2) (v:=.slice aW nW xG) rfl;have l3:=fN DZ.out (i:=3) (v:=.slice aB nB cB0) rfl;have H53:=hid (Ov.out w5 jP.out);have ag2:=hid jC;clear jC SL;go_wp2_with fail;refine H53.out.mono ?_;rintro e w6 ⟨rfl,jo⟩;have s_:=hid (jP.out.trans jo);have jv:=hid (show Fr [] w3 w6 from(ag1.out.trans ag2.out).trans jo);have ag3:=hid (fO DZ.out jo af);have ag4:=hid (fO Ic.out jv.out af);have ag5:=hid (fS UG.out jv.out);have ag6:=hid (fS wX.out jv.out);have hz3:=tA.out.size;have hz6:=jv.out.size;clear jo H53;go_wp2_with fail;go_loopw [11] (fun a wr=>∃(i:Nat) (xs:List Value),a=.int .i64 i/\i<=nW/\Hid (wr.ownsRow wb.heap.size 3 1 (.slice (some ⟨gW,0,none⟩) nW cW) nW xs)/\Hid (Fr [gW] w6 wr)) (fun a _=>nW - (intOf a).toNat)
 case atStart=>exact⟨0,_,rfl,aH _,ag5,hid (Fr.refl _ _)⟩
 case round =>
  obtain⟨i,xs,rfl,hin,HO,Dz⟩:=hrel;have Y_:=hid (fO ag4.out Dz.out (fun h=>by have:=aj.1 h;omega));have j2:=fN Y_.out (i:=2) (v:=.slice (some ⟨gW,0,none⟩) nW cW) rfl;by_cases hlt:i<nW
  ·have sY:(i:Int)<(nW:Int):=by omega
   obtain⟨y,c1⟩:∃y,wr.cell? ⟨gW,i,none⟩=some y:=by
    rw[HO.out.cellAt i (by omega),az (by have:=HO.out.1;omega)];exact⟨_,rfl⟩
   have f1:=HO.out.frozenAt i;have HS:=hid (HO.out.stored i (.int .i64 7));have HG:=hid (Dz.out.trans (Fr.kI HS.out.2));have uj:=hid HS.out.1;go_wp2;go_roundw
   case rel=>exact⟨i+1,_,by go_num,by omega,uj,HG⟩
   case measure=>simp[intOf];omega
  ·have sY:¬(i:Int)<(nW:Int):=by omega
   have acU:=hid (sW ag6.out Dz.out (fun h=>by have:=aj.1 h;omega));have m7:=hid (show Fr [] w wr from s_.out.behind Dz.out (fun k hk=>by rw[aj.1 hk];omega));go_wp2_with fail;obtain⟨w7,hw7⟩:∃w7,w7=wr:=⟨_,rfl⟩;rw[<-hw7]at acU m7 Y_ Dz;have Av:=hid hw7;rw[<-Av.out];clear hw7 j2;go_loopw [12] (fun a wr=>∃(i:Nat) (xs:List Value),a=.int .i64 i/\i<=nB/\Hid (wr.ownsRow wb.heap.size 3 1 (.slice (some ⟨gB,0,none⟩) nB cB) nB xs)/\Hid (Fr [gB] w7 wr)) (fun a _=>nB - (intOf a).toNat)
   case atStart=>exact⟨0,_,rfl,aH _,acU,hid (Fr.refl _ _)⟩
   case round =>
    obtain⟨i,xs,rfl,hin,HO,v_⟩:=hrel;have ag7:=hid (fO Y_.out v_.out (fun h=>by have:=aj.1 h;omega));have j3:=fN ag7.out (i:=3) (v:=.slice (some ⟨gB,0,none⟩) nB cB) rfl;by_cases hlt:i<nB
    ·have sY:(i:Int)<(nB:Int):=by omega
     obtain⟨y,c1⟩:∃y,wr.cell? ⟨gB,i,none⟩=some y:=by
      rw[HO.out.cellAt i (by omega),az (by have:=HO.out.1;omega)];exact⟨_,rfl⟩
     have f1:=HO.out.frozenAt i;have HS:=hid (HO.out.stored i (.int .i64 0));have HG:=hid (v_.out.trans (Fr.kI HS.out.2));have uj:=hid HS.out.1;go_wp2;go_roundw
     case rel=>exact⟨i+1,_,by go_num,by omega,uj,HG⟩
     case measure=>simp[intOf];omega
    ·have sY:¬(i:Int)<(nB:Int):=by omega
     have q8:=hid (show Fr [] w wr from m7.out.behind v_.out (fun k hk=>by rw[aj.1 hk];omega));have VX:=hid (fO (fO ag3.out Dz.out (fun h=>by have:=aj.1 h;omega)) v_.out (fun h=>by have:=aj.1 h;omega));have ag8:=hid (((Oq.out.fr jv.out (fun k hk=>absurd hk af)).fr Dz.out (fun k hk=>by rw[aj.1 hk];omega)).fr v_.out (fun k hk=>by rw[aj.1 hk];omega));have HQ8:=hid (fO (fO (fO HQ.out jv.out af) Dz.out (fun h=>by have:=aj.1 h;omega)) v_.out (fun h=>by have:=aj.1 h;omega));have H54:=hid (Ws.out wr _ _ (Ag.out wr q8.out) (HW.out.at.fr q8.out) (HB.out.at.fr q8.out));rw[<-Oo.out,<-sU.out]at H54;have l0:=fN VX.out (i:=0) (v:=.string s) rfl;have l1:=fN VX.out (i:=1) (v:=.int .i64 b) rfl;have l2:=fN VX.out (i:=2) (v:=.slice aW nW xG) rfl;have l3:=fN VX.out (i:=3) (v:=.slice aB nB cB0) rfl;go_wp2_with fail;refine H54.out.mono ?_;rintro e w9 ⟨lb,WB,vC,vM,hm,rfl,hLD,hlb,yL⟩;have WW:=hid hLD;have DM:=hid yL;clear hLD yL H54;go_wp2_with fail;go_ret3;exact⟨Q,lb,rfl,hid ⟨P,_,v0,v1,v2,vL,hs3,fO HQ8.out DM.out af,ag8.out.fr DM.out (fun k hk=>absurd hk af)⟩,hid ⟨WB,vC,vM,hm,WW.out⟩,q8.out.trans DM.out⟩
theorem n_ {l:List Int}{z:Int}(h:jf l z){i j:Nat}(hij:i<j)(hj:j<l.length):nth l i<nth l j:=by
 have:=bn.1 h.sorted i j (by omega) hj hij;rw[nth,nth,az (show i<l.length by omega),az hj];exact this
theorem lR {l:List Int}{z:Int}(h:jf l z){i j:Nat}(hi:i<l.length)(hj:j<l.length)(e:nth l i=nth l j):i=j:=by
 rcases bT i j with h1 | h1 | h1
 ·have:=n_ h h1 hj;omega
 ·exact h1
 ·have:=n_ h h1 hi;omega
theorem Dj {l:List Int}{z:Int}(h:jf l z){i j:Nat}(hi:i<l.length)(e:nth l i<nth l j)(hj:j<l.length):i<j:=by
 rcases bT i j with h1 | h1 | h1
 ·exact h1
 ·subst h1;omega
 ·have:=n_ h h1 hi;omega
theorem kg {l:List Int}{z:Int}(h:jf l z):nth l 0=0:=by rw[nth,h.head];rfl
theorem mD {l:List Int}{z:Int}(h:jf l z):nth l (l.length - 1)=z:=by rw[nth,h.last];rfl
theorem yI {l:List Int}{z:Int}(h:jf l z)(x:Int):∀k,k<=l.length->∃j,j<l.length/\nth l j=best l x k
 | 0,_=>⟨0,h.len,kg h⟩
 | k+1,hk=>by
   rw[best];split
   ·exact⟨k,hk,qg l k⟩
   ·exact yI h x k (by omega)
theorem vG {l:List Int}{z:Int}(h:jf l z){j:Nat}(hj:j<l.length):cidx l (nth l j)=j:=by
 have hm:l.contains (nth l j)=true:=by
  rw[dN,nth,az hj];exact aT _
 obtain⟨h1,h2⟩:=A8 h hm;rw[<-qg]at h2;exact lR h h1 hj h2
theorem Kb {Bd:List Int}{z:Int}(h:jf Bd z)(h1:1<Bd.length)(off:Int)(back:Bool) :
 ∃c,c+1<Bd.length/\cidx Bd (fY Bd z off back).1=(if(fY Bd z off back).2=true then c+1 else c)/\nth Bd (if(fY Bd z off back).2=true then c+1 else c)=(fY Bd z off back).1:=by
 obtain⟨j,hj,e⟩:=yI h (min (max off 0) z) Bd.length (ak _);have hp:fY Bd z off back=(nth Bd j,if nth Bd j=0 then false else if nth Bd j=z then true else back):=by rw[e];rfl
 have hci:=vG h hj;rw[hp];dsimp only;rw[hci];by_cases h0:nth Bd j=0
 ·obtain rfl:j=0:=lR h hj (by omega) (by rw[h0,kg h])
  rw[ay h0];exact⟨0,h1,rfl,rfl⟩
 ·rw[au h0]
  have hj0:j≠0:=fun hz=>h0 (by rw[hz];exact kg h)
  by_cases h2:nth Bd j=z
  ·rw[ay h2]
   exact⟨j - 1,by omega,by simp;omega,by simp;rw[show j - 1+1=j by omega]⟩
  ·rw[au h2]
   have hjl:j≠Bd.length - 1:=fun hz=>h2 (by rw[hz];exact mD h)
   cases back
   ·exact⟨j,by omega,rfl,rfl⟩
   ·exact⟨j - 1,by omega,by simp;omega,by simp;rw[show j - 1+1=j by omega]⟩
structure vK (Bd V:List Int)(z:Int)(Ls:List Ln):Prop where
 rs:jf Bd z
 bd:Bd.length=V.length+1
 on:∀i,i<Ls.length->∀c∈(ji Ls i).o,c<V.length/\Holds Ls (nth Bd c) i
 has:∀c,c<V.length->∃i,i<Ls.length/\c∈(ji Ls i).o
 nd:∀i,i<Ls.length->(ji Ls i).o.Nodup
 ne:0<V.length->∀i,i<Ls.length->0<(ji Ls i).o.length
theorem xB {O:List Nat}{j:Nat}(h:j<O.length):fX O j=O[j]:=by rw[fX,az h];rfl
theorem NR {O:List Nat}{c:Nat}(h:c∈O):∃k,uE O c k:=by
 refine⟨O.idxOf c,List.idxOf_lt_length_iff.2 h,?_,fun j hj e=>?_⟩
 ·rw[xB (List.idxOf_lt_length_iff.2 h)];exact List.getElem_idxOf _
 ·have hl:j<O.length:=eP hj (List.idxOf_lt_length_iff.2 h)
  rw[xB hl]at e;have:=List.not_of_lt_findIdx (p:=(· == c)) (xs:=O) hj;simp[e]at this
theorem vK.gap {Bd V:List Int}{z:Int}{Ls:List Ln}(F:vK Bd V z Ls)(h0:0<V.length)(off:Int)(back:Bool) :
 ∃c i k,c<V.length/\cidx Bd (fY Bd z off back).1=(if(fY Bd z off back).2=true then c+1 else c)/\nth Bd (if(fY Bd z off back).2=true then c+1 else c)=(fY Bd z off back).1/\Holds Ls (nth Bd c) i/\uE (ji Ls i).o c k:=by
 have hb:=F.bd;obtain⟨c,hc,e1,e2⟩:=Kb F.rs (by omega) off back;obtain⟨i,hi,hm⟩:=F.has c (by omega);obtain⟨k,hk⟩:=NR hm;exact⟨c,i,k,by omega,e1,e2,(F.on i hi c hm).2,hk⟩
def mY (Bd V:List Int)(z:Int)(Ls:List Ln)(off:Int)(back:Bool):Nat × Nat :=
 if V.length=0 then(0,0)else
 let p:=fY Bd z off back
 let c:=if p.2=true then cidx Bd p.1 - 1 else cidx Bd p.1
 let i:=Ls.findIdx (fun l=>decide (nth Bd c<l.t))
 let k:=(ji Ls i).o.idxOf c
 (i,if p.2=(nth V c % 2 == 1)then k else k+1)
theorem zM {Ls:List Ln}{x:Int}{i:Nat}(h:Holds Ls x i):Ls.findIdx (fun l=>decide (x<l.t))=i:=by
 have hl:∀j (hj:j<Ls.length),ji Ls j=Ls[j]:=fun j hj=>by rw[ji,az hj];rfl
 refine(List.findIdx_eq h.lt).2 ⟨?_,fun j hj=>?_⟩
 ·have:=h.yes
  rw[hl i h.lt]at this;exact aZ this
 ·have:=h.no j hj
  rw[hl j (eP hj h.lt)]at this;exact aK this
theorem Kc {O:List Nat}{c k:Nat}(h:uE O c k):O.idxOf c=k:=by
 refine(List.findIdx_eq h.lt).2 ⟨?_,fun j hj=>?_⟩
 ·have:=h.yes
  rw[xB h.lt]at this;simp[this]
 ·have:=h.no j hj
  rw[xB (eP hj h.lt)]at this;simpa using this
theorem Bg {Bd V:List Int}{z:Int}{Ls:List Ln}{off:Int}{back:Bool}{c i k:Nat}(h0:0<V.length)(hc:cidx Bd (fY Bd z off back).1=(if(fY Bd z off back).2=true then c+1 else c))(hi:Holds Ls (nth Bd c) i)(hk:uE (ji Ls i).o c k) :
 mY Bd V z Ls off back=(i,if(fY Bd z off back).2=(nth V c % 2 == 1)then k else k+1):=by
 have hcc:(if(fY Bd z off back).2=true then cidx Bd (fY Bd z off back).1 - 1 else cidx Bd (fY Bd z off back).1)=c:=by
  rw[hc];by_cases hb:(fY Bd z off back).2=true
  ·rw[ay hb,ay hb];omega
  ·rw[au hb,au hb]
 unfold mY;rw[au (by omega)];dsimp only;rw[hcc,zM hi,Kc hk]
theorem lJ {Bd:List Int}{z:Int}(h:jf Bd z){j:Nat}(hj:j<Bd.length)(b:Bool):fY Bd z (nth Bd j) b=(nth Bd j,if j=0 then false else if j=Bd.length - 1 then true else b):=by
 have h0:0<=nth Bd j:=by
  have h1:=kg h
  rcases aS j with e | e
  ·rw[e,h1];exact dU 0
  ·have:=n_ h e hj;omega
 have hz:nth Bd j<=z:=by
  have h1:=mD h
  rcases aA (show j<=Bd.length - 1 by omega)with e | e
  ·have:=n_ h e (by omega);omega
  ·rw[e,h1];exact dU z
 have hb:best Bd (min (max (nth Bd j) 0) z) Bd.length=nth Bd j:=by
  rw[show min (max (nth Bd j) 0) z=nth Bd j by omega];exact B7 h.sorted hj (qg Bd j).symm
 have e1:(nth Bd j=0) ↔ j=0:=⟨fun e=>lR h hj h.len (by rw[e,kg h]),fun e=>by rw[e,kg h]⟩;have e2:(nth Bd j=z) ↔ j=Bd.length - 1:=⟨fun e=>lR h hj (by have:=h.len;omega) (by rw[e,mD h]),fun e=>by rw[e,mD h]⟩;unfold fY;dsimp only;rw[hb];simp only[e1,e2]
theorem NT {k n:Nat}(h:k<=n):(near (k:Int) (n:Int)).toNat=k:=by unfold near;split <;> (try split) <;> omega
theorem NU {i K:Nat}(h:i<K):(near (i:Int) ((K:Int) - 1)).toNat=i:=by unfold near;split <;> (try split) <;> omega
theorem Ie {O:List Nat}{j:Nat}(h:j<O.length):fX O j∈O:=by rw[xB h];exact aT _
theorem NV {O:List Nat}(hn:O.Nodup){k:Nat}(h:k<O.length):uE O (fX O k) k:=by
 refine⟨h,rfl,fun j hj e=>?_⟩;rw[xB h,xB (eP hj h)]at e;exact bn.1 hn j k (eP hj h) h hj e
theorem SM {Bd V:List Int}{z:Int}{Ls:List Ln}(F:vK Bd V z Ls)(h0:0<V.length){i k:Nat}(hi:i<Ls.length)(hk:k<=(ji Ls i).o.length) :
 fY Bd z (iM Bd V Ls i k).1 (iM Bd V Ls i k).2=iM Bd V Ls i k/\mY Bd V z Ls (iM Bd V Ls i k).1 (iM Bd V Ls i k).2=(i,k):=by
 have hne:=F.ne h0 i hi;have hbd:=F.bd;obtain⟨c,j,rt,hj,hc,hjk,hnp⟩:∃c j rt,j<(ji Ls i).o.length/\c=fX (ji Ls i).o j/\k=(if rt=true then j+1 else j)/\iM Bd V Ls i k=lY Bd V c rt:=by
  unfold iM;dsimp only;rw[NU hi,NT hk,au (by omega)];by_cases hk0:k=0
  ·rw[ay hk0]
   exact⟨_,0,false,hne,rfl,by simp[hk0],rfl⟩
  ·rw[au hk0]
   exact⟨_,k - 1,true,by omega,rfl,by simp;omega,rfl⟩
 have hm:c∈(ji Ls i).o:=by rw[hc];exact Ie hj
 obtain⟨hcv,hH⟩:=F.on i hi c hm;have hS:uE (ji Ls i).o c j:=by rw[hc];exact NV (F.nd i hi) hj
 rw[hnp];have hp:fY Bd z (lY Bd V c rt).1 (lY Bd V c rt).2=lY Bd V c rt/\cidx Bd (lY Bd V c rt).1=(if(lY Bd V c rt).2=true then c+1 else c):=by
  unfold lY;by_cases hr:rt=(nth V c % 2 == 1)
  ·rw[ay hr]
   dsimp only;rw[lJ F.rs (by omega),vG F.rs (by omega)];refine⟨?_,by simp⟩;rw[au (show ¬c=Bd.length - 1 by omega)];simp
  ·rw[au hr]
   dsimp only;rw[lJ F.rs (by omega),vG F.rs (by omega)];refine⟨?_,by simp⟩;rw[au (show ¬c+1=0 by omega)];simp
 refine⟨hp.1,?_⟩;rw[Bg h0 (c:=c) (i:=i) (k:=j) (by rw[hp.1];exact hp.2) hH hS,hp.1,hjk];have e:(lY Bd V c rt).2=if rt=(nth V c % 2 == 1)then false else true:=by unfold lY;split <;> rfl
 rw[e];cases rt <;> cases (nth V c % 2 == 1) <;> rfl
theorem Ig {Bd:List Int}{z:Int}(h:jf Bd z)(off:Int)(back:Bool):fY Bd z (fY Bd z off back).1 (fY Bd z off back).2=fY Bd z off back:=by
 obtain⟨j,hj,e⟩:=yI h (min (max off 0) z) Bd.length (ak _);have hp:fY Bd z off back=(nth Bd j,if nth Bd j=0 then false else if nth Bd j=z then true else back):=by rw[e];rfl
 rw[hp];dsimp only;rw[lJ h hj];have e1:(nth Bd j=0) ↔ j=0:=⟨fun e=>lR h hj h.len (by rw[e,kg h]),fun e=>by rw[e,kg h]⟩;have e2:(nth Bd j=z) ↔ j=Bd.length - 1:=⟨fun e=>lR h hj (by have:=h.len;omega) (by rw[e,mD h]),fun e=>by rw[e,mD h]⟩;simp only[e1,e2];by_cases h1:j=0
 ·simp[h1]
 ·by_cases h2:j=Bd.length - 1
  ·simp[h2]
  ·simp[h1,h2]
theorem EX {Bd V:List Int}{z:Int}{Ls:List Ln}(h:jf Bd z)(off:Int)(back:Bool):mY Bd V z Ls (fY Bd z off back).1 (fY Bd z off back).2=mY Bd V z Ls off back:=by
 unfold mY;rw[Ig h]
theorem Dk {s:ByteArray}{n:Nat}{bs:Int}{W Br:List Int}{k j:Nat}(hj:j<k):ji (AR s n bs W Br k) j=yf (gJ.pos s) (fX (jw s n)) (qD s n bs Br) W (jc s n Br j) (jc s n Br (j+1)):=by
 rw[ji,AR,bV,List.getElem?_range hj];rfl
theorem Dl {P ri:Nat->Nat}{Ev:Nat->Int}{W:List Int}{a b c:Nat}:c∈(yf P ri Ev W a b).o ↔ a<=c/\c<b:=by
 show c∈(mG _ (b - a)).map _ ↔ _;rw[dP];constructor
 ·rintro ⟨t,ht,rfl⟩
  have:=xS _ _ t ht;omega
 ·intro h
  exact⟨c - a,(uN _ _).mem_iff.2 (bS.2 (by omega)),by omega⟩
theorem Ke {P ri:Nat->Nat}{Ev:Nat->Int}{W:List Int}{a b:Nat}:(yf P ri Ev W a b).o.Nodup:=by
 show((mG _ (b - a)).map _).Nodup;have h1:(mG (fun t=>Ev (ri (a+t))) (b - a)).Nodup:=(uN _ _).nodup_iff.2 List.nodup_range;unfold List.Nodup at *;rw[List.pairwise_map];exact h1.imp (fun hne he=>hne (by omega))
theorem SN {s:ByteArray}{n:Nat}(hend:gJ.Ends s n)(hn:0<n){bs:Int}{W Br:List Int}(E:qN s n Br):vK (bnd s n) (IF s n bs Br) (s.size:Nat) (AR s n bs W Br (Br.length+1)):=by
 have hr:=lP hend;have hvl:(IF s n bs Br).length=cn s n:=by rw[IF,vw,<-oN hn]
 have hbl:(bnd s n).length=cn s n+1:=by have:=(jk s n).2.1;rw[j5 hend];unfold cn;omega
 have hle:∀j,j<=Br.length+1->jc s n Br j<=cn s n:=E.le;have ht:∀j,j<Br.length+1->(ji (AR s n bs W Br (Br.length+1)) j).t=nth (bnd s n) (jc s n Br (j+1)):=fun j hj=>by
  have:=hle (j+1) (by omega);rw[Dk hj,mJ hend (by rw[<-j5 hend,hbl];omega)];rfl
 have hmo:∀i j,i<j->j<=Br.length+1->jc s n Br i<jc s n Br j:=E.mono;refine⟨hr,by omega,fun i hi c hc=>?_,fun c hc=>?_,fun i hi=>?_,fun _ i hi=>?_⟩
 ·rw[pM]at hi
  rw[Dk hi,Dl]at hc;have h1:=hle (i+1) (by omega);refine⟨by omega,by rw[pM];exact hi,by rw[ht i hi];exact n_ hr hc.2 (by omega),fun j hj=>?_⟩;rw[ht j (by omega)];have h2:jc s n Br (j+1)<=jc s n Br i:=by
   rcases aA (show j+1<=i from hj)with h | h
   ·exact bZ (hmo _ _ h (by omega))
   ·rw[h];exact ak _
  rcases aA (a_ h2 hc.1)with h3 | h3
  ·have:=n_ hr h3 (by omega);omega
  ·rw[h3];omega
 ·rw[hvl]at hc
  have key:∀k,k<=Br.length+1->c<jc s n Br k->∃i,i<Br.length+1/\jc s n Br i<=c/\c<jc s n Br (i+1):=by
   intro k
   induction k with
   | zero=>intro _ h;rw[show jc s n Br 0=0 from E.e0]at h;omega
   | succ k ih =>
     intro hk h
     rcases bP c (jc s n Br k)with h1 | h1
     ·exact ih (by omega) h1
     ·exact⟨k,by omega,h1,h⟩
  obtain⟨i,hi,h1,h2⟩:=key (Br.length+1) (ak _) (by rw[show jc s n Br (Br.length+1)=cn s n from E.eN];exact hc);exact⟨i,by rw[pM];exact hi,by rw[Dk hi,Dl];exact⟨h1,h2⟩⟩
 ·rw[pM]at hi
  rw[Dk hi];exact Ke
 ·rw[pM]at hi
  rw[Dk hi];exact List.length_pos_of_mem (Dl.2 ⟨ak _,hmo i (i+1) (by omega) (by omega)⟩)
theorem Ih:vK [0] [] 0 [NI]:=by
 refine⟨⟨by simp,rfl,rfl⟩,rfl,fun i hi c hc=>?_,fun c hc=>absurd hc (bE _),fun i hi=>?_,fun h=>absurd h (Nat.lt_irrefl 0)⟩
 ·obtain rfl:i=0:=by simpa using hi
  exact absurd hc af
 ·obtain rfl:i=0:=by simpa using hi
  exact List.nodup_nil
theorem SO (s:ByteArray)(b:Int)(W Br:List Int)(n:Nat)(hend:gJ.Ends s n)(hBl:Br.length<=5000)(hck:tu s n (iY s n) b W Br=0):∃Bd V X r bs Cs Ls,Twin s b W Br Bd V X r bs Cs Ls/\xy Bd V Ls/\vK Bd V (s.size:Nat) Ls/\Bd=bnd s n/\r=1 - 2 * bs/\(bs=0\/bs=1):=by
 obtain⟨hs,hb⟩:=EQ hck;obtain⟨tJ,hw,hbr⟩:=r5 hend hs hb hck;by_cases hn:0<n
 ·have hE:=Cu hend hn Br hbr
  have DC:n<=400:=by have:=gJ.lU s n;have:=hend.1;omega
  have hcn:cn s n<=400:=by have:=jk s n;unfold cn;omega
  have hB4:Br.length+1<=400:=by
   have h1:=Sd hE (Br.length+1) (ak _);have h2:=hE.le (Br.length+1) (ak _);unfold jc at h1;omega
  have hvl:(IF s n (gS (Kl s n) b) Br).length=cn s n:=by rw[IF,vw,<-oN hn]
  have hWB:∀i,0<=nth W i/\nth W i<=1073741824:=fun i=>by
   by_cases hi:i<n
   ·exact Fw hw hi
   ·rw[rZ (by omega)];decide
  refine⟨bnd s n,IF s n (gS (Kl s n) b) Br,wl s W n,1 - 2 * gS (Kl s n) b,gS (Kl s n) b,rO (gJ.pos s) (fX (jw s n)) (qD s n (gS (Kl s n) b) Br) W (cn s n),AR s n (gS (Kl s n) b) W Br (Br.length+1),?_,Sv hn DC (mK hb) hWB hE hcn,SN hend hn hE,rfl,rfl,mK hb⟩
  exact {
   vx:=by rw[hvl,t_,<-oN hn]
   bd:=by have:=(jk s n).2.1;rw[hvl,j5 hend];unfold cn;omega
   vl:=by rw[hvl];exact hcn
   cs:=by rw[hvl];exact Su hend hn (mK hb) W Br
   l0:=by rw[pM];omega
   l1:=by rw[pM];exact hB4
   ll:=NM hE hcn _ W
   p:=fun w vW vB hF h1 h2=>Sj s b vW vB W Br n w hs hb hF hend hn h1 h2 hBl hck
   d:=fun w vW vB hF h1 h2=>RU s b vW vB W Br n w hs hb hF.u hend hn h1 tJ hw h2 (by omega) hbr }
 ·obtain rfl:n=0:=by omega
  have hs0:s.size=0:=hend.1.symm;have J9:=FQ hs0 hbr;subst J9;refine⟨[0],[],[],1 - 2 * gS [] b,gS [] b,[],[NI],?_,H_,by rw[hs0];exact Ih,by simp[bnd,hs0,kF],rfl,mK hb⟩
  exact {
   vx:=rfl
   bd:=rfl
   vl:=by decide
   cs:=rfl
   l0:=by decide
   l1:=by decide
   ll:=fun l hl=>by rw[aj.1 hl];decide
   p:=fun w vW vB hF h1 h2=>Hy s b vW vB W [] w hs0 hb hF h1 h2 hck
   d:=fun w vW vB hF h1 h2=>by
    obtain⟨aB,cB,rfl,_⟩:=h2
    exact Hz s b vW aB cB w hs0 hb hF.u }
theorem VY {x:Int}{K:Nat}:(near x ((K:Int) - 1) == x)=decide (0<=x/\x<(K:Int)):=by
 unfold near;by_cases h:0<=x/\x<(K:Int)
 ·rw[aZ h,au (by omega),au (by omega)];simp
 ·rw[aK h]
  split
  ·simp;omega
  ·split
   ·simp;omega
   ·omega
theorem Dm (a:Option Addr)(K c:Nat)(x:Int)(w:World)(h0:0<K)(hK:K<=100000):Calls prog 211 #[.slice a K c,.int .i64 x] w fun e w'=>e=.returned (.bool (decide (0<=x/\x<(K:Int))))/\w'=w:=by
 rw[<-VY];have Ib:=hid (fun Y:World=>zJ a K c x Y h0 hK);go_enter func211,ntmps211;go_wp2_with (first | (go_at_call 106;refine(Ib.out _).mono ?_;rintro e w' ⟨rfl,rfl⟩));go_ret;exact⟨rfl,rfl⟩
theorem EY (gL K cL i lo cO:Nat)(aO:Option Addr)(w:World)(hi:i<K)(hc:w.cell? ⟨gL,i * 4+2,none⟩=some (.slice aO lo cO)):Calls prog 212 #[.slice (some ⟨gL,0,none⟩) K cL,.int .i64 (i:Nat)] w fun e w'=>e=.returned (.int .i64 (lo:Nat))/\Fr [] w w':=by
 have sY:(i:Int)<(K:Int):=by omega
 have hgl:=eS _ _ hc;dsimp only at hgl;go_enter func212,ntmps212;go_wp2;go_ret;exact⟨rfl,by(repeat(first | refine Fr.fQ ?_ (by omega) | refine Fr.drewN ?_ _ | refine Fr.drew ?_ | with_reducible exact Fr.refl _ _ | refine Fr.alloc ?_ _))⟩
theorem SP (Bd:List Int)(gB cB nB:Nat)(v1 v2:Value)(x:Int)(k:Nat)(w:World)(hn:0<nB)(hl:nB<=1000)(hB:rowAt w gB nB Bd)(hk:near x ((nB:Int) - 1)=(k:Nat))(hkn:k<nB) :
 Calls prog 172 #[.agg #[.slice (some ⟨gB,0,none⟩) nB cB,v1,v2],.int .i64 x] w fun e w'=>e=.returned (.int .i64 (nth Bd k))/\Fr [] w w':=by
 have FR:=hid (fun Y:World=>zI x ((nB:Int) - 1) Y (by omega));rw[hk]at FR;have c1:=hB k hkn;have hgl:=eS _ _ c1;dsimp only at hgl;have sX:(k:Int)<(nB:Int):=by omega
 have hw1:IntKind.i64.wrap ((nB:Int) - 1)=(nB:Int) - 1:=by rw[eT];omega
 generalize nth Bd k=y at *;clear hB hk;obtain⟨w2,hw2⟩:∃w2,w2=w.alloc (.cells #[.slice (some ⟨gB,0,none⟩) nB cB,v1,v2] 163):=⟨_,rfl⟩;have f_:=hid (show Fr [] w w2 by rw[hw2];(repeat(first | refine Fr.fQ ?_ (by omega) | refine Fr.drewN ?_ _ | refine Fr.drew ?_ | with_reducible exact Fr.refl _ _ | refine Fr.alloc ?_ _)));have iG:=hid (show w2.heap[w.heap.size]?=some (.cells #[.slice (some ⟨gB,0,none⟩) nB cB,v1,v2] 163 (0,0)) by rw[hw2];exact fU w _);have UU:=hid (f_.out.cell c1 af);go_enter func172,ntmps172;go_wp2_with fail;rw[<-hw2];clear hw2 c1;have b0:=fN iG.out (i:=0) (v:=.slice (some ⟨gB,0,none⟩) nB cB) rfl;have c1:=UU.out;go_quiet (first | (go_at_call 107;exact Calls.quiet_of_same (FR.out _)));go_wp2;go_ret;exact⟨rfl,f_.out.trans (jr _ _)⟩
theorem NW (B P:Nat)(Bd V X:List Int)(r:Int)(Ls:List Ln)(v0 v1 v2 vL:Value)(hs:List Value)(off:Int)(back:Bool)(g1 g2:Nat)(w:World)(h:LP w B P Bd V X r Ls v0 v1 v2 vL hs)(hr:-1<=r/\r<=1)(hi:g1<Ls.length)(hk2:g2<=(ji Ls g1).o.length)(hK:Ls.length<=400)(hlo:∀l∈Ls,l.o.length<=1000)
 (hg:oP 59 P off back (.agg #[.int .i64 (g1:Nat),.int .i64 (g2:Nat)]) w)
 (hn:∀line gap Y,Fr [] w Y->Calls prog 61 #[.pointer (some ⟨P,0,none⟩),.agg #[.int .i64 line,.int .i64 gap]] Y fun e w'=>e=.returned (.agg #[.int .i64 (iM Bd V Ls line gap).1,.bool (iM Bd V Ls line gap).2])/\Fr [] Y w') (R:Int × Bool)
 (hR:R=if g2<(ji Ls g1).o.length then iM Bd V Ls (g1:Nat) ((g2:Int)+1)else if 0<=(g1:Int)+r/\(g1:Int)+r<(Ls.length:Int)then iM Bd V Ls ((g1:Int)+r) 0 else(off,back)) :
 Calls prog 171 #[.pointer (some ⟨P,0,none⟩),.agg #[.int .i64 off,.bool back]] w fun e w'=>e=.returned (.agg #[.int .i64 R.1,.bool R.2])/\Fr [] w w':=by
 obtain⟨gL,cL,qw⟩:=fR (by omega) h.l;subst qw;obtain⟨U,hU,hnn⟩:=h.n;obtain⟨vO,vX,_,_,a3,_,a5,_⟩:=hnn g1 _ (mL hi);obtain⟨aO,cO,Dd⟩:=gA a5;subst Dd;have C2:=hid (show w.cell? ⟨gL,g1 * 4+2,none⟩=some (.slice aO (ji Ls g1).o.length cO) by rw[h.l.cellAt _ (by omega)];exact a3);have hl1:=hlo _ (kE hi);have j9:=hid h.o;have rW:=h_ h.o;have Za:=hid hg;have JY:=hid hn;have HR:=hid hR;have tD:=hid (fun Y:World=>Dm (some ⟨gL,0,none⟩) Ls.length cL ((g1:Int)+r) Y (by omega) (by omega));generalize (ji Ls g1).o.length=lo at *;generalize Ls.length=K at *;have Zb:=hid (fun(Y:World) (hf:Fr [] w Y)=>EY gL K cL g1 lo cO aO Y hi (hf.cell C2.out af));obtain⟨ra,rb,Ii⟩:∃ra rb,R=(ra,rb):=⟨_,_,rfl⟩;rw[Ii]at HR ⊢;obtain⟨w2,hw2,f_,iG,HR2⟩:=jW w off back;clear h hg hn hR hnn a3 a5 hlo Ii;go_enter func171,ntmps171;have HW2:=hid hw2;clear hw2;go_wp2_with fail;rw[<-HW2.out];refine(Za.out _ f_.out).mono ?_;rintro e w3 ⟨rfl,hf3⟩;obtain⟨w4,hw4⟩:∃w4,w4=w3.alloc (.cells #[.int .i64 (g1:Nat),.int .i64 (g2:Nat)] 58):=⟨_,rfl⟩;have gP:=hid (show Fr [] w w4 by rw[hw4];exact(f_.out.trans hf3).alloc _);have jF:=hid (show Fr [] w2 w4 by rw[hw4];exact hf3.alloc _);have jD:=hid (show w4.heap[w3.heap.size]?=some (.cells #[.int .i64 (g1:Nat),.int .i64 (g2:Nat)] 58 (0,0)) by rw[hw4];exact fU w3 _);have oQ:=hid hw4;clear hf3 hw4;go_wp2_with fail;rw[<-oQ.out];have t0:=fN jD.out (i:=0) (v:=.int .i64 (g1:Nat)) rfl;have t1:=fN jD.out (i:=1) (v:=.int .i64 (g2:Nat)) rfl;have p3:=fN (fO j9.out gP.out af) (i:=3) (v:=.slice (some ⟨gL,0,none⟩) K cL) rfl;go_cut [19]from 7 to 99 (fun v wx=>v=.bool (decide ((g2:Int)<(lo:Int)))/\Hid (Fr [] w4 wx))
 case first =>
  go_region_with (first
   | (go_at_call 212;refine(Zb.out _ ?fa).mono ?_;(case fa=>exact⟨gP.out.os,gP.out.tape,gP.out.output,gP.out.size,gP.out.block⟩);rintro e w5 ⟨rfl,jC⟩;have nA:=hid (show Fr [] w4 w5 from⟨jC.os,jC.tape,jC.output,jC.size,jC.block⟩);have t2:=fN (fO jD.out nA.out af) (i:=1) (v:=.int .i64 (g2:Nat)) rfl;clear jC))
  all_goals (
   go_wp2
   go_meet
   exact⟨by simp,nA⟩)
 case rest =>
  obtain⟨rfl,nA⟩:=hcut;obtain⟨w5,qC⟩:∃w5,w5=wc:=⟨_,rfl⟩;rw[<-qC]at nA ⊢;clear qC t0 t1 p3;have jP:=hid (gP.out.trans nA.out);have qZ:=hid (fO jD.out nA.out af);have t0:=fN qZ.out (i:=0) (v:=.int .i64 (g1:Nat)) rfl;have t1:=fN qZ.out (i:=1) (v:=.int .i64 (g2:Nat)) rfl;have hl5:=h_ qZ.out;by_cases hlt:g2<lo
  ·have SQ:(g2:Int)<(lo:Int):=by omega
   have HRR:=hid (show(ra,rb)=iM Bd V Ls (g1:Nat) ((g2:Int)+1) by rw[HR.out,ay hlt]);have xC:=hid (fun(Y:World) (hf:Fr [] w5 Y)=>JY.out (g1:Nat) ((g2:Int)+1) Y (jP.out.trans hf));rw[<-HRR.out]at xC;dsimp only at xC;have hwk:IntKind.i64.wrap ((g2:Int)+1)=(g2:Int)+1:=by rw[eT];omega
   clear HRR HR;go_wp2_with fail;refine(xC.out w5 (Fr.refl _ _)).mono ?_;rintro e w6 ⟨rfl,jo⟩;have jv:=hid (nA.out.trans jo);clear jo;have jd:=hid (fO HR2.out (jF.out.trans (jv.out)) af);obtain⟨r0,r1,k0,k1⟩:=jM jd.out;go_wp2_with fail;refine eU (eW (t:=55) (fr:=(0,0)) rfl _ _ (w.heap.size+1) _ _ rfl (fP (fP jd.out 0 _) 1 _) underlying55 rfl (by kernel_rfl)) rfl ?_;exact⟨rfl,Fr.fQ (Fr.fQ (gP.out.trans (jv.out)) (by omega)) (by omega)⟩
  ·have SQ:¬(g2:Int)<(lo:Int):=by omega
   have Zd:decide ((g2:Int)<(lo:Int))=false:=by simpa using SQ
   have p3:=fN (fO j9.out jP.out af) (i:=3) (v:=.slice (some ⟨gL,0,none⟩) K cL) rfl;have p4:=fN (fO j9.out jP.out af) (i:=4) (v:=.int .i64 r) rfl;obtain⟨ln,hln⟩:∃ln,ln=(g1:Int)+r:=⟨_,rfl⟩;have sZ:=hid hln;rw[<-hln]at tD;have hwr:IntKind.i64.wrap ((g1:Int)+r)=ln:=by rw[hln,eT];omega
   rw[Zd];clear Zd;have acW:=hid (fO iG.out (jF.out.trans nA.out) af);have s0:=fN acW.out (i:=0) (v:=.int .i64 off) rfl;have s1:=fN acW.out (i:=1) (v:=.bool back) rfl;by_cases hv:0<=ln/\ln<(K:Int)
   ·have HRR:=hid (show(ra,rb)=iM Bd V Ls ln 0 by rw[HR.out,au hlt,<-sZ.out,ay hv])
    have xC:=hid (fun(Y:World) (hf:Fr [] w Y)=>JY.out ln 0 Y hf);rw[<-HRR.out]at xC;dsimp only at xC;rw[aZ hv]at tD;clear HRR HR hln hv;go_wp2_with fail;go_quiet (fail);obtain⟨wq,hwq⟩:∃wq,wq=w5.drewN nq:=⟨_,rfl⟩;rw[<-hwq];have Kf:=hid (show Fr [] w4 wq by rw[hwq];exact nA.out.trans (jr _ _));have v_:=hid (gP.out.trans Kf.out);clear hwq t0 t1 p3 p4 s0 s1 hwr;have p3:=fN (fO j9.out v_.out af) (i:=3) (v:=.slice (some ⟨gL,0,none⟩) K cL) rfl;have NX:=hid (fO iG.out (jF.out.trans Kf.out) af);go_wp2_with (first | (go_at_call 211;refine(tD.out _).mono ?_;rintro e wz ⟨rfl,hwz⟩;obtain rfl:wq=wz:=hwz.symm) | (go_at_call 61;refine(xC.out _ v_.out).mono ?_;rintro e w6 ⟨rfl,jo⟩;have jv:=hid (Kf.out.trans jo);clear jo;have jd:=hid (fO HR2.out (jF.out.trans jv.out) af);have r0:=fN jd.out (i:=0) (v:=.int .i64 0) rfl;have r1:=fN jd.out (i:=1) (v:=.bool false) rfl;have k0:=fT jd.out 0;have k1:=fT jd.out 1));refine eU (eW (t:=55) (fr:=(0,0)) rfl _ _ (w.heap.size+1) _ _ rfl (fP (fP jd.out 0 _) 1 _) underlying55 rfl (by kernel_rfl)) rfl ?_;exact⟨rfl,Fr.fQ (Fr.fQ (gP.out.trans jv.out) (by omega)) (by omega)⟩
   ·have HRR:=hid (show(ra,rb)=(off,back) by rw[HR.out,au hlt,<-sZ.out,au hv])
    obtain⟨rfl,rfl⟩:=dY HRR.out;rw[aK hv]at tD;clear HRR HR hln hv;go_wp2_with fail;go_quiet (fail);obtain⟨wq,hwq⟩:∃wq,wq=w5.drewN nq:=⟨_,rfl⟩;rw[<-hwq];have Kf:=hid (show Fr [] w4 wq by rw[hwq];exact nA.out.trans (jr _ _));have v_:=hid (gP.out.trans Kf.out);clear hwq t0 t1 p3 p4 s0 s1 hwr;have p3:=fN (fO j9.out v_.out af) (i:=3) (v:=.slice (some ⟨gL,0,none⟩) K cL) rfl;have NX:=hid (fO iG.out (jF.out.trans Kf.out) af);have s0:=fN NX.out (i:=0) (v:=.int .i64 ra) rfl;have s1:=fN NX.out (i:=1) (v:=.bool rb) rfl;have jd:=hid (fO HR2.out (jF.out.trans Kf.out) af);obtain⟨r0,r1,k0,k1⟩:=jM jd.out;go_wp2_with (first | (go_at_call 211;refine(tD.out _).mono ?_;rintro e wz ⟨rfl,hwz⟩;obtain rfl:wq=wz:=hwz.symm));refine eU (eW (t:=55) (fr:=(0,0)) rfl _ _ (w.heap.size+1) _ _ rfl (fP (fP jd.out 0 _) 1 _) underlying55 rfl (by kernel_rfl)) rfl ?_;exact⟨rfl,Fr.fQ (Fr.fQ v_.out (by omega)) (by omega)⟩
theorem Ij (B P:Nat)(Bd V X:List Int)(r:Int)(Ls:List Ln)(v0 v1 v2 vL:Value)(hs:List Value)(off:Int)(back:Bool)(g1 g2:Nat)(w:World)(h:LP w B P Bd V X r Ls v0 v1 v2 vL hs)(hr:-1<=r/\r<=1)(hi:g1<Ls.length)(hk2:g2<=(ji Ls g1).o.length)(hK:Ls.length<=400)(hlo:∀l∈Ls,l.o.length<=1000)
 (hg:oP 59 P off back (.agg #[.int .i64 (g1:Nat),.int .i64 (g2:Nat)]) w)
 (hn:∀line gap Y,Fr [] w Y->Calls prog 61 #[.pointer (some ⟨P,0,none⟩),.agg #[.int .i64 line,.int .i64 gap]] Y fun e w'=>e=.returned (.agg #[.int .i64 (iM Bd V Ls line gap).1,.bool (iM Bd V Ls line gap).2])/\Fr [] Y w') (R:Int × Bool)
 (hR:R=if 0<g2 then iM Bd V Ls (g1:Nat) ((g2:Int) - 1)else if 0<=(g1:Int) - r/\(g1:Int) - r<(Ls.length:Int)then iM Bd V Ls ((g1:Int) - r) ((ji Ls ((g1:Int) - r).toNat).o.length:Nat)else(off,back)) :
 Calls prog 170 #[.pointer (some ⟨P,0,none⟩),.agg #[.int .i64 off,.bool back]] w fun e w'=>e=.returned (.agg #[.int .i64 R.1,.bool R.2])/\Fr [] w w':=by
 obtain⟨gL,cL,qw⟩:=fR (by omega) h.l;subst qw;obtain⟨U,hU,hnn⟩:=h.n
 have HLC:=hid (fun(i:Nat) (hi:i<Ls.length)=>show ∃aO cO,w.cell? ⟨gL,i * 4+2,none⟩=some (.slice aO (ji Ls i).o.length cO) by
  obtain⟨vO,vX,_,_,a3,_,a5,_⟩:=hnn i _ (mL hi)
  obtain⟨aO,cO,Dd⟩:=gA a5
  subst Dd
  exact⟨aO,cO,by rw[h.l.cellAt _ (by omega)];exact a3⟩)
 have hl1:=hlo _ (kE hi);have j9:=hid h.o;have rW:=h_ h.o;have Za:=hid hg;have JY:=hid hn;have HR:=hid hR;have hg2:g2<=1000:=by omega
 have tD:=hid (fun Y:World=>Dm (some ⟨gL,0,none⟩) Ls.length cL ((g1:Int) - r) Y (by omega) (by omega));obtain⟨K,hK'⟩:∃K,K=Ls.length:=⟨_,rfl⟩;rw[<-hK']at hi hK tD j9 HLC HR;obtain⟨ra,rb,Ii⟩:∃ra rb,R=(ra,rb):=⟨_,_,rfl⟩;rw[Ii]at HR ⊢;obtain⟨w2,hw2,f_,iG,HR2⟩:=jW w off back;clear h hg hn hR hnn hlo Ii hl1 hk2 hK';go_enter func170,ntmps170;have HW2:=hid hw2;clear hw2;go_wp2_with fail;rw[<-HW2.out];refine(Za.out _ f_.out).mono ?_;rintro e w3 ⟨rfl,hf3⟩;obtain⟨w4,hw4⟩:∃w4,w4=w3.alloc (.cells #[.int .i64 (g1:Nat),.int .i64 (g2:Nat)] 58):=⟨_,rfl⟩;have gP:=hid (show Fr [] w w4 by rw[hw4];exact(f_.out.trans hf3).alloc _);have jF:=hid (show Fr [] w2 w4 by rw[hw4];exact hf3.alloc _);have jD:=hid (show w4.heap[w3.heap.size]?=some (.cells #[.int .i64 (g1:Nat),.int .i64 (g2:Nat)] 58 (0,0)) by rw[hw4];exact fU w3 _);have oQ:=hid hw4;have t0:=fN jD.out (i:=0) (v:=.int .i64 (g1:Nat)) rfl;have t1:=fN jD.out (i:=1) (v:=.int .i64 (g2:Nat)) rfl;have p3:=fN (fO j9.out gP.out af) (i:=3) (v:=.slice (some ⟨gL,0,none⟩) K cL) rfl;have p4:=fN (fO j9.out gP.out af) (i:=4) (v:=.int .i64 r) rfl;have hl4:=h_ jD.out;clear hf3 hw4;by_cases hlt:0<g2
 ·have SQ:(0:Int)<(g2:Int):=by omega
  have HRR:=hid (show(ra,rb)=iM Bd V Ls (g1:Nat) ((g2:Int) - 1) by rw[HR.out,ay hlt]);have xC:=hid (fun(Y:World) (hf:Fr [] w Y)=>JY.out (g1:Nat) ((g2:Int) - 1) Y hf);rw[<-HRR.out]at xC;dsimp only at xC;have hwk:IntKind.i64.wrap ((g2:Int) - 1)=(g2:Int) - 1:=by rw[eT];omega
  clear HRR HR;go_wp2_with fail;rw[<-oQ.out];refine(xC.out w4 gP.out).mono ?_;rintro e w6 ⟨rfl,jo⟩;have jv:=hid jo;clear jo;have jd:=hid (fO HR2.out (jF.out.trans jv.out) af);obtain⟨r0,r1,k0,k1⟩:=jM jd.out;go_wp2_with fail;refine eU (eW (t:=55) (fr:=(0,0)) rfl _ _ (w.heap.size+1) _ _ rfl (fP (fP jd.out 0 _) 1 _) underlying55 rfl (by kernel_rfl)) rfl ?_;exact⟨rfl,Fr.fQ (Fr.fQ (gP.out.trans jv.out) (by omega)) (by omega)⟩
 ·have SQ:¬(0:Int)<(g2:Int):=by omega
  have Zd:decide ((0:Int)<(g2:Int))=false:=by simpa using SQ
  by_cases hv:0<=(g1:Int) - r/\(g1:Int) - r<(K:Int)
  ·obtain⟨i2,hi2⟩:∃i2:Nat,((i2:Nat):Int)=(g1:Int) - r:=⟨((g1:Int) - r).toNat,by omega⟩
   have acX:i2<K:=by omega
   obtain⟨aO,cO,hcO⟩:=HLC.out i2 acX;have HCO:=hid hcO;have HRR:=hid (show(ra,rb)=iM Bd V Ls (i2:Nat) ((ji Ls i2).o.length:Nat) by rw[HR.out,au hlt,ay hv,<-hi2,cH]);have xC:=hid (fun(Y:World) (hf:Fr [] w Y)=>JY.out (i2:Nat) ((ji Ls i2).o.length:Nat) Y hf);rw[<-HRR.out]at xC;dsimp only at xC;rw[aZ hv,<-hi2]at tD;have hwr:IntKind.i64.wrap ((g1:Int) - r)=((i2:Nat):Int):=by rw[hi2,eT];omega
   have Zb:=hid (fun(Y:World) (hf:Fr [] w Y)=>EY gL K cL i2 (ji Ls i2).o.length cO aO Y acX (hf.cell HCO.out af));generalize (ji Ls i2).o.length=lo at *;clear HRR HR hv hi2 hcO;go_wp2_with fail;rw[<-oQ.out];go_quiet (fail);obtain⟨wq,hwq⟩:∃wq,wq=w4.drewN nq:=⟨_,rfl⟩;rw[<-hwq];have Kf:=hid (show Fr [] w4 wq by rw[hwq];exact jr _ _);have v_:=hid (gP.out.trans Kf.out);clear hwq t0 t1 p3 p4 hwr;have p3:=fN (fO j9.out v_.out af) (i:=3) (v:=.slice (some ⟨gL,0,none⟩) K cL) rfl;go_wp2_with (first | (go_at_call 211;refine(tD.out _).mono ?_;rintro e wz ⟨rfl,hwz⟩;obtain rfl:wq=wz:=hwz.symm) | (go_at_call 212;refine(Zb.out _ v_.out).mono ?_;rintro e w5 ⟨rfl,jC⟩;have nA:=hid (Kf.out.trans jC);have jP:=hid (gP.out.trans (Kf.out.trans jC));clear jC) | (go_at_call 61;refine(xC.out _ jP.out).mono ?_;rintro e w6 ⟨rfl,jo⟩;have jv:=hid (nA.out.trans jo);clear jo;have jd:=hid (fO HR2.out (jF.out.trans jv.out) af);have r0:=fN jd.out (i:=0) (v:=.int .i64 0) rfl;have r1:=fN jd.out (i:=1) (v:=.bool false) rfl;have k0:=fT jd.out 0;have k1:=fT jd.out 1));refine eU (eW (t:=55) (fr:=(0,0)) rfl _ _ (w.heap.size+1) _ _ rfl (fP (fP jd.out 0 _) 1 _) underlying55 rfl (by kernel_rfl)) rfl ?_;exact⟨rfl,Fr.fQ (Fr.fQ (gP.out.trans jv.out) (by omega)) (by omega)⟩
  ·have HRR:=hid (show(ra,rb)=(off,back) by rw[HR.out,au hlt,au hv])
   obtain⟨rfl,rfl⟩:=dY HRR.out;rw[aK hv]at tD;obtain⟨ln,hln⟩:∃ln,ln=(g1:Int) - r:=⟨_,rfl⟩;rw[<-hln]at tD;have hwr:IntKind.i64.wrap ((g1:Int) - r)=ln:=by rw[hln,eT];omega
   clear HRR HR hv hln;go_wp2_with fail;rw[<-oQ.out];go_quiet (fail);obtain⟨wq,hwq⟩:∃wq,wq=w4.drewN nq:=⟨_,rfl⟩;rw[<-hwq];have Kf:=hid (show Fr [] w4 wq by rw[hwq];exact jr _ _);have v_:=hid (gP.out.trans Kf.out);clear hwq t0 t1 p3 p4 hwr;have p3:=fN (fO j9.out v_.out af) (i:=3) (v:=.slice (some ⟨gL,0,none⟩) K cL) rfl;have NX:=hid (fO iG.out (jF.out.trans Kf.out) af);have s0:=fN NX.out (i:=0) (v:=.int .i64 ra) rfl;have s1:=fN NX.out (i:=1) (v:=.bool rb) rfl;have jd:=hid (fO HR2.out (jF.out.trans Kf.out) af);obtain⟨r0,r1,k0,k1⟩:=jM jd.out;go_wp2_with (first | (go_at_call 211;refine(tD.out _).mono ?_;rintro e wz ⟨rfl,hwz⟩;obtain rfl:wq=wz:=hwz.symm));refine eU (eW (t:=55) (fr:=(0,0)) rfl _ _ (w.heap.size+1) _ _ rfl (fP (fP jd.out 0 _) 1 _) underlying55 rfl (by kernel_rfl)) rfl ?_;exact⟨rfl,Fr.fQ (Fr.fQ v_.out (by omega)) (by omega)⟩
theorem Lh (a b:Int):∀w:World,(Instr.field 58 (.agg #[.int .i64 a,.int .i64 b]) 0).run prog w=.ok (.int .i64 a) w:=fun _=>by kernel_rfl
theorem VZ (a b:Int)(x y:Value):∀w:World,(Instr.field 51 (.agg #[.int .i64 a,.int .i64 b,x,y]) 0).run prog w=.ok (.int .i64 a) w:=fun _=>by kernel_rfl
theorem V2 (a b:Int)(x y:Value):∀w:World,(Instr.field 51 (.agg #[.int .i64 a,.int .i64 b,x,y]) 1).run prog w=.ok (.int .i64 b) w:=fun _=>by kernel_rfl
theorem Dn (B P:Nat)(Bd V X:List Int)(r:Int)(Ls:List Ln)(v0 v1 v2 vL:Value)(hs:List Value)(off V3 goal:Int)(back:Bool)(g1 g2:Nat)(w:World)(h:LP w B P Bd V X r Ls v0 v1 v2 vL hs)(hr:-1<=V3/\V3<=1)(hi:g1<Ls.length)(hK:Ls.length<=400)
 (hg:oP 59 P off back (.agg #[.int .i64 (g1:Nat),.int .i64 (g2:Nat)]) w)
 (hn:∀line Y,Fr [] w Y->Calls prog 63 #[.pointer (some ⟨P,0,none⟩),.int .i64 line,.int .i64 goal] Y fun e w'=>e=.returned (.agg #[.int .i64 (qE Bd V Ls line goal).1,.bool (qE Bd V Ls line goal).2])/\Fr [] Y w') (R:Int × Bool)
 (hR:R=if 0<=(g1:Int)+V3/\(g1:Int)+V3<(Ls.length:Int)then qE Bd V Ls ((g1:Int)+V3) goal else(off,back)) :
 Calls prog 174 #[.pointer (some ⟨P,0,none⟩),.agg #[.int .i64 off,.bool back],.int .i64 V3,.int .i64 goal] w fun e w'=>e=.returned (.agg #[.int .i64 R.1,.bool R.2])/\Fr [] w w':=by
 obtain⟨gL,cL,qw⟩:=fR (by omega) h.l;subst qw;have j9:=hid h.o;have rW:=h_ h.o;have Za:=hid hg;have H63:=hid hn;have HR:=hid hR;have tD:=hid (fun Y:World=>Dm (some ⟨gL,0,none⟩) Ls.length cL ((g1:Int)+V3) Y (by omega) (by omega));generalize Ls.length=K at *;obtain⟨ra,rb,Ii⟩:∃ra rb,R=(ra,rb):=⟨_,_,rfl⟩;rw[Ii]at HR ⊢;obtain⟨ln,hln⟩:∃ln,ln=(g1:Int)+V3:=⟨_,rfl⟩;have hwr:IntKind.i64.wrap ((g1:Int)+V3)=ln:=by rw[hln,eT];omega
 rw[<-hln]at tD HR;obtain⟨w2,hw2,f_,iG,HR2⟩:=jW w off back;clear h hg hn hR Ii hln;go_enter func174,ntmps174;have HW2:=hid hw2;clear hw2;go_wp2_with fail;rw[<-HW2.out];refine(Za.out _ f_.out).mono ?_;rintro e w3 ⟨rfl,hf3⟩;have iO:=hid (f_.out.trans hf3);have tA:=hid hf3;have p3:=fN (fO j9.out iO.out af) (i:=3) (v:=.slice (some ⟨gL,0,none⟩) K cL) rfl;have k9:=hid (fO iG.out hf3 af);have s0:=fN k9.out (i:=0) (v:=.int .i64 off) rfl;have s1:=fN k9.out (i:=1) (v:=.bool back) rfl;have Rr:=Lh (g1:Nat) (g2:Nat);clear hf3;by_cases hv:0<=ln/\ln<(K:Int)
 ·have HRR:=hid (show(ra,rb)=qE Bd V Ls ln goal by rw[HR.out,ay hv])
  have Ze:=hid (fun(Y:World) (hf:Fr [] w Y)=>H63.out ln Y hf);rw[<-HRR.out]at Ze;dsimp only at Ze;rw[aZ hv]at tD;clear HRR HR hv;go_wp2_with (first | (go_at_call 211;refine(tD.out _).mono ?_;rintro e wz ⟨rfl,hwz⟩;obtain rfl:w3=wz:=hwz.symm) | (go_at_call 63;refine(Ze.out _ iO.out).mono ?_;rintro e w6 ⟨rfl,jo⟩;have jv:=hid (tA.out.trans jo);clear jo;have jd:=hid (fO HR2.out jv.out af);have r0:=fN jd.out (i:=0) (v:=.int .i64 0) rfl;have r1:=fN jd.out (i:=1) (v:=.bool false) rfl;have k0:=fT jd.out 0;have k1:=fT jd.out 1));refine eU (eW (t:=55) (fr:=(0,0)) rfl _ _ (w.heap.size+1) _ _ rfl (fP (fP jd.out 0 _) 1 _) underlying55 rfl (by kernel_rfl)) rfl ?_;exact⟨rfl,Fr.fQ (Fr.fQ (f_.out.trans jv.out) (by omega)) (by omega)⟩
 ·have HRR:=hid (show(ra,rb)=(off,back) by rw[HR.out,au hv])
  obtain⟨rfl,rfl⟩:=dY HRR.out;rw[aK hv]at tD;clear HRR HR hv;have jd:=hid (fO HR2.out tA.out af);obtain⟨r0,r1,k0,k1⟩:=jM jd.out;go_wp2_with (first | (go_at_call 211;refine(tD.out _).mono ?_;rintro e wz ⟨rfl,hwz⟩;obtain rfl:w3=wz:=hwz.symm));refine eU (eW (t:=55) (fr:=(0,0)) rfl _ _ (w.heap.size+1) _ _ rfl (fP (fP jd.out 0 _) 1 _) underlying55 rfl (by kernel_rfl)) rfl ?_;exact⟨rfl,Fr.fQ (Fr.fQ iO.out (by omega)) (by omega)⟩
theorem Dp (B P:Nat)(Bd V X:List Int)(r:Int)(Ls:List Ln)(v0 v1 v2 vL:Value)(hs:List Value)(off:Int)(back:Bool)(g1 g2:Nat)(w:World)(h:LP w B P Bd V X r Ls v0 v1 v2 vL hs)(hi:g1<Ls.length)
 (hg:oP 59 P off back (.agg #[.int .i64 (g1:Nat),.int .i64 (g2:Nat)]) w) :
 Calls prog 173 #[.pointer (some ⟨P,0,none⟩),.agg #[.int .i64 off,.bool back]] w fun e w'=>∃vO vX,e=.returned (.agg #[.int .i64 (ji Ls g1).f,.int .i64 (ji Ls g1).t,vO,vX])/\Fr [] w w':=by
 obtain⟨gL,cL,qw⟩:=fR (by omega) h.l;subst qw;obtain⟨U,hU,hnn⟩:=h.n;obtain⟨vO,vX,a1,a2,a3,a4,a5,a6,_⟩:=hnn g1 _ (mL hi);obtain⟨aO,cO,Dd⟩:=gA a5;obtain⟨aX,cX,NB⟩:=gA a6;subst Dd NB;have C0:=hid (show w.cell? ⟨gL,g1 * 4,none⟩=_ from(h.l.cellAt _ (by omega)).trans a1);have C1:=hid (show w.cell? ⟨gL,g1 * 4+1,none⟩=_ from(h.l.cellAt _ (by omega)).trans a2);have C2:=hid (show w.cell? ⟨gL,g1 * 4+2,none⟩=_ from(h.l.cellAt _ (by omega)).trans a3);have C3:=hid (show w.cell? ⟨gL,g1 * 4+3,none⟩=_ from(h.l.cellAt _ (by omega)).trans a4);have j9:=hid h.o;have rW:=h_ h.o;have Za:=hid hg;have sY:(g1:Int)<(Ls.length:Int):=by omega
 generalize (ji Ls g1).f=f at *;generalize (ji Ls g1).t=t at *;generalize (ji Ls g1).o.length=lo at *;generalize (ji Ls g1).x.length=lx at *;generalize Ls.length=K at *;obtain⟨w2,hw2⟩:∃w2,w2=(w.alloc (.cells #[.int .i64 off,.bool back] 55)).alloc (.cells #[.int .i64 0,.int .i64 0,.slice none 0 0,.slice none 0 0] 51):=⟨_,rfl⟩;have f_:=hid (show Fr [] w w2 by rw[hw2];exact((Fr.refl _ _).alloc _).alloc _);have iG:=hid (show w2.heap[w.heap.size]?=some (.cells #[.int .i64 off,.bool back] 55 (0,0)) by rw[hw2];exact fO (fU w _) ((Fr.refl [] _).alloc _) af)
 have HR2:=hid (show w2.heap[w.heap.size+1]?=some (.cells #[.int .i64 0,.int .i64 0,.slice none 0 0,.slice none 0 0] 51 (0,0)) by
  have hs:(w.alloc (.cells #[.int .i64 off,.bool back] 55)).heap.size=w.heap.size+1:=by simp
  have h0:=fU (w.alloc (.cells #[.int .i64 off,.bool back] 55)) (.cells #[.int .i64 0,.int .i64 0,.slice none 0 0,.slice none 0 0] 51)
  rw[hs]at h0
  rw[hw2];exact h0)
 have Rr:=Lh (g1:Nat) (g2:Nat);clear h hg hnn a1 a2 a3 a4 a5 a6;go_enter func173,ntmps173;have HW2:=hid hw2;clear hw2;go_wp2_with fail;rw[<-HW2.out];have p3:=fN (fO j9.out f_.out af) (i:=3) (v:=.slice (some ⟨gL,0,none⟩) K cL) rfl;have s0:=fN iG.out (i:=0) (v:=.int .i64 off) rfl;have s1:=fN iG.out (i:=1) (v:=.bool back) rfl
 go_region_with (first
  | (go_at_call 59;refine(Za.out _ ?fa).mono ?_;(case fa=>exact⟨f_.out.os,f_.out.tape,f_.out.output,f_.out.size,f_.out.block⟩);rintro e w3 ⟨rfl,hf3⟩;have tA:=hid (show Fr [] w2 w3 from⟨hf3.os,hf3.tape,hf3.output,hf3.size,hf3.block⟩);have iO:=hid (f_.out.trans tA.out);have q3:=fN (fO j9.out iO.out af) (i:=3) (v:=.slice (some ⟨gL,0,none⟩) K cL) rfl;have c0:=iO.out.cell C0.out af;have c1:=iO.out.cell C1.out af;have c2:=iO.out.cell C2.out af;have c3:=iO.out.cell C3.out af;have HR3:=hid (fO HR2.out tA.out af);have r0:=fN HR3.out (i:=0) (v:=.int .i64 0) rfl;have r1:=fN HR3.out (i:=1) (v:=.int .i64 0) rfl;have r2:=fN HR3.out (i:=2) (v:=.slice none 0 0) rfl;have r3:=fN HR3.out (i:=3) (v:=.slice none 0 0) rfl;have k0:=fT HR3.out 0;have k1:=fT HR3.out 1;have k2:=fT HR3.out 2;have k3:=fT HR3.out 3;clear hf3))
 all_goals (
  go_wp2
  refine eU (eW (t:=51) (fr:=(0,0)) rfl _ _ (w.heap.size+1) _ _ rfl (fP (fP (fP (fP HR3.out 0 _) 1 _) 2 _) 3 _) underlying51 rfl (by kernel_rfl)) rfl ?_
  exact⟨_,_,rfl,Fr.fQ (Fr.fQ (Fr.fQ (Fr.fQ iO.out (by omega)) (by omega)) (by omega)) (by omega)⟩)
end Go.Proofs.YtnakejhohdbfdaaGreatDoor

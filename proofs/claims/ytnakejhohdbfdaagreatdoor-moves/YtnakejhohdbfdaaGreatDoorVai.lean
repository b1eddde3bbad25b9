import Derived.Test.YtnakejhohdbfdaaGreatDoorVah
import Derived.Deep.RegionHeldLaw
import Derived.Deep.RegionLawGrows
set_option maxHeartbeats 40000000
set_option maxRecDepth 10000
namespace Go.Proofs.YtnakejhohdbfdaaGreatDoor
open Go.RowKit jN Lay Go.Proofs.Tryz
def o_ (f:Nat->Int)(o:List Nat):Nat->Int
 | 0=>0
 | k+1=>o_ f o k+f (fX o k)
def xs (f:Nat->Int)(o:List Nat)(k:Nat):List Int:=(List.range (k+1)).map (o_ f o)
theorem KN (f:Nat->Int)(o:List Nat)(k:Nat):xs f o (k+1)=xs f o k++[o_ f o k+f (fX o k)]:=by
 rw[xs,dA,cJ];rfl
theorem qU (f:Nat->Int)(o:List Nat)(k:Nat):(xs f o k).length=k+1:=by simp[xs]
theorem Es (f:Nat->Int)(o:List Nat){k j:Nat}(h:j<=k):nth (xs f o k) j=o_ f o j:=by
 have:j<k+1:=by omega
 simp[nth,xs,this]
theorem Jg (f:Nat->Int)(M:Int)(h:∀k,0<=f k/\f k<=M)(o:List Nat):∀k:Nat,0<=o_ f o k/\o_ f o k<=k * M
 | 0=>by simp[o_]
 | k+1=>by
   have ih:=Jg f M h o k;have:=h (fX o k);have e:((k+1:Nat):Int) * M=k * M+M:=by rw[dL,Int.add_mul];simp
   rw[o_];omega
def Ma (P:Nat->Nat)(ri:Nat->Nat)(Ev:Nat->Int)(W:List Int)(k:Nat):Int × Int × Int × Int:=(((P (ri k):Nat):Int),((P (ri (k+1)):Nat):Int),Ev (ri k),wid W (ri k) (ri (k+1)))
def rO (P:Nat->Nat)(ri:Nat->Nat)(Ev:Nat->Int)(W:List Int)(m:Nat):List (Int × Int × Int × Int):=(List.range m).map (Ma P ri Ev W)
theorem Mb (P:Nat->Nat)(ri:Nat->Nat)(Ev:Nat->Int)(W:List Int)(m:Nat):rO P ri Ev W (m+1)=rO P ri Ev W m++[Ma P ri Ev W m]:=by
 rw[rO,dA,cJ];rfl
theorem rP (P:Nat->Nat)(ri:Nat->Nat)(Ev:Nat->Int)(W:List Int)(m:Nat):(rO P ri Ev W m).length=m:=by simp[rO]
theorem T0 (P:Nat->Nat)(ri:Nat->Nat)(Ev:Nat->Int)(W:List Int){m k:Nat}(h:k<m):(rO P ri Ev W m)[k]?=some (Ma P ri Ev W k):=by simp[rO,h]
def yf (P:Nat->Nat)(ri:Nat->Nat)(Ev:Nat->Int)(W:List Int)(a b:Nat):Ln :=
 let o:=(mG (fun t=>Ev (ri (a+t))) (b - a)).map (fun t=>t+a)
 ⟨((P (ri a):Nat):Int),((P (ri b):Nat):Int),o,xs (fun k=>wid W (ri k) (ri (k+1))) o (b - a)⟩
def evs (ri:Nat->Nat)(Ev:Nat->Int)(a k:Nat):List Int:=(List.range k).map fun t=>Ev (ri (a+t))
theorem PI (ri:Nat->Nat)(Ev:Nat->Int)(a k:Nat):evs ri Ev a (k+1)=evs ri Ev a k++[Ev (ri (a+k))]:=by
 rw[evs,dA,cJ];rfl
theorem PJ {ri:Nat->Nat}{Ev:Nat->Int}{a N i:Nat}(h:i<N):nth (evs ri Ev a N) i=Ev (ri (a+i)):=by simp[nth,evs,h]
theorem Aa {V U:Nat->Int}:∀n,(∀i,i<n->V i=U i)->kD V n=kD U n
 | 0,_=>rfl
 | n+1,h=>by rw[kD,kD,Aa n (fun i hi=>h i (by omega)),h n (by omega)]
theorem Cj {V U:Nat->Int}{n:Nat}(h:∀i,i<n->V i=U i):mG V n=mG U n:=by
 rw[mG,mG,Aa n h];exact Eh 1 _ _ (fun x hx=>h x (bS.1 hx))
theorem Fp {l:List Nat}{f:Nat->Nat}{t:Nat}(h:t<l.length):fX (l.map f) t=f (fX l t):=by simp[fX,h]
theorem Xt {O od:List Nat}{t:Nat}(h:t<=O.length):fX (O.take t++od.drop t) t=fX od t:=by
 rw[fX,aI (by rw[aP];omega),aP,b_,fX]
 congr 2;omega
theorem PK {O od:List Nat}{t:Nat}(h:t<od.length)(hl:O.length=od.length){y:Nat}(hy:fX O t=y):(O.take t++od.drop t).set t y=O.take (t+1)++od.drop (t+1):=by
 rw[eE _ _ (by rw[aP];omega),aP,show t - min t O.length=0 by omega,uK od t h,List.set_cons_zero,pQ O t (by omega)];rw[fX]at hy;rw[hy];simp
theorem uh (f:Nat->Int)(M:Int)(o:List Nat):∀k:Nat,(∀j,j<k->0<=f (fX o j)/\f (fX o j)<=M)->0<=o_ f o k/\o_ f o k<=k * M
 | 0,_=>by simp[o_]
 | k+1,h=>by
   have ih:=uh f M o k (fun j hj=>h j (by omega));have:=h k (by omega);have e:((k+1:Nat):Int) * M=k * M+M:=by rw[dL,Int.add_mul];simp
   rw[o_];omega
theorem cell_grown {w w':World}{b g i:Nat}{v:Value}(hg:w.grownBy w' (some g))(hc:w.cell? ⟨b,i,none⟩=some v)(hb:b≠g):w'.cell? ⟨b,i,none⟩=some v :=
 (World.cell?_of_block (a:=⟨b,i,none⟩) (hg.block b (eS _ _ hc) (fun e=>hb (bW e)))).trans hc
theorem Om (w:World)(o:Obj):Fr [] w (w.alloc o).drew:=((Fr.refl [] w).alloc o).drew
theorem Ck (a b:Int)(c d:Option Addr)(e f g h:Nat):∀u∈[Value.int .i64 a,.int .i64 b,.slice c e f,.slice d g h],u.oneCell'=true:=by
 intro u hu;simp only[bK,af,eR]at hu
 rcases hu with rfl | rfl | rfl | rfl <;> rfl
def Cl (Ev:Nat->Int)(r t:Nat):Int:=if t<=r then -1 else Ev r
theorem Fr.fQ {S:List Nat}{w w':World}(h:Fr S w w'){b i:Nat}{v:Value}(hb:w.heap.size<=b):Fr S w (w'.setCell ⟨b,i,none⟩ v) :=
 h.grown (row:=some b) mH (fun k e=>by cases e;exact hb)
structure Ctx (P:Nat->Nat)(ri:Nat->Nat)(Ev:Nat->Int)(W:List Int)(n c:Nat):Prop where
 n0:0<n
 n1:n<=400
 cn:c<=n
 mono:∀i j,i<j->P i<P j
 T1:∀i j,i<j->j<=c->ri i<ri j
 ric:ri c=n
 ev:∀i,0<=Ev i/\Ev i<=100
 wb:∀i,0<=nth W i/\nth W i<=1073741824
 pb:∀i,i<=n->P i<=400
theorem PL (P:Nat->Nat)(ri:Nat->Nat)(Ev:Nat->Int)(W Bl:List Int)(n c:Nat)(X:Ctx P ri Ev W n c)(q:PH)(C L:List Int)(G:List Bool)(WB w:World)(U lb:Nat)(s:ByteArray)(base:Int)(vC vL:Value)(Ls:List Ln)(hs:List Value)(gW oW cW gB cB a b:Nat)
 (hL:LD WB w U lb s base vC vL (rO P ri Ev W a) Ls hs) (hU:U<=w.heap.size) (hLl:Ls.length<=1000) (hP:PS WB q C L G) (hG:∀i,i<q.n->(G[i]?).getD false=gone (nth q.K i)) (Jh:q.n=n) (ZD:PA WB q.bR n P) (hW:Jf WB gW oW n W) (hB:rowAt WB gB (c+1) Bl) (hBl:∀k,k<=c->nth Bl k=((P (ri k):Nat):Int))
 (hne:lb≠q.p/\lb≠q.bR/\lb≠q.bF/\lb≠q.bM/\lb≠q.bC/\lb≠q.bL/\lb≠q.bG/\lb≠gW/\lb≠gB) (hab:a<b) (hbc:b<=c) (hEv:∀i,ri a<=i->i<ri b->Wv q.K L q.base (ri b) i=Ev i) :
 Calls prog 96 #[.pointer (some ⟨lb,0,none⟩),.pointer (some ⟨q.p,0,none⟩),.slice (some ⟨gW,oW,none⟩) n cW,.slice (some ⟨gB,0,none⟩) (c+1) cB,.int .i64 (P (ri a):Nat),.int .i64 (P (ri b):Nat)] w
  fun e w'=>e=.returned (.tuple #[])/\∃Mc T3 hs',LD WB w' w'.heap.size lb s base Mc T3 (rO P ri Ev W b) (Ls++[yf P ri Ev W a b]) hs':=by
 obtain⟨i3,hi3,rQ,rS,hz32⟩:=e_ info3;obtain⟨i2,hi2,PM,PN,PO⟩:=e_ Pz;obtain⟨i48,aej,hy0,hy1,hy2⟩:=e_ Xq;obtain⟨i51,Ji,hx0,hx1,hx2⟩:=e_ Fm;have aay:=X.ric;have hra:ri a<ri b:=X.T1 a b hab hbc;have hrb:ri b<=n:=by
  rcases aA hbc with h | h
  ·have:=X.T1 b c h (ak _);omega
  ·rw[h,aay];exact ak _
 have hn1:=X.n1;have hcn:=X.cn;have HX:=hid X;have HL:=hid hL;have Ip:=hid hP;have HG:=hid hG;have DA:=hid ZD;have HW:=hid hW;have Iq:=hid hB;have qM:=hid hBl;have yg:=hid hne;have HEV:=hid hEv;have Tg:=hid Jh;have HPw:=hid (fun(w':World) (hf:Fr [lb] WB w')=>show PS w' q C L G from hP.fr hf (by simp only[aj];exact⟨fun h=>hne.1 h.symm,fun h=>hne.2.1 h.symm,fun h=>hne.2.2.1 h.symm,fun h=>hne.2.2.2.1 h.symm,fun h=>hne.2.2.2.2.1 h.symm,fun h=>hne.2.2.2.2.2.1 h.symm,fun h=>hne.2.2.2.2.2.2.1 h.symm⟩));have Jj:=hid (fun(w':World) (hf:Fr [lb] WB w')=>show PA w' q.bR n P from ZD.fr hf (fun h=>hne.2.1 (aj.1 h).symm));have HWw:=hid (fun(w':World) (hf:Fr [lb] WB w')=>show Jf w' gW oW n W from hW.fr hf (fun h=>hne.2.2.2.2.2.2.2.1 (aj.1 h).symm));have HBw:=hid (fun(w':World) (hf:Fr [lb] WB w')=>show rowAt w' gB (c+1) Bl from hB.fr hf (fun h=>hne.2.2.2.2.2.2.2.2 (aj.1 h).symm));have c0:=(HPw.out w hL.fr).c0;rw[Jh]at c0;obtain⟨fa,hfa⟩:∃fa,fa=P (ri a):=⟨_,rfl⟩;obtain⟨tb,htb⟩:∃tb,tb=P (ri b):=⟨_,rfl⟩;obtain⟨ia,hia⟩:∃ia,ia=ri a:=⟨_,rfl⟩;obtain⟨ib,hib⟩:∃ib,ib=ri b:=⟨_,rfl⟩;rw[<-hfa,<-htb];rw[<-hia]at hfa hra HEV;rw[<-hib]at htb hra hrb HEV;have HIA:=hid hia;have PR:=hid hib;have oC:=hid hfa;have Md:=hid htb;have ajg:fa<tb:=by rw[hfa,htb];exact X.mono _ _ hra
 have ajh:tb<=400:=by rw[htb];exact X.pb _ hrb
 clear hL hP hG ZD hW hB hBl hne hEv Jh aay hfa htb hia hib X;go_enter func96,ntmps96;go_wp2_with fail;go_loop [12] (fun ii=>∃i:Nat,i<=ia/\ii=.int .i64 i) (fun ii=>ia - (intOf ii).toNat)
 case atStart=>exact⟨0,aH _,rfl⟩
 case round =>
  obtain⟨i,hii,rfl⟩:=hrel;have d0:=Jj.out w HL.out.fr i (by omega);have sY:(i:Int)<(n:Int):=by omega
  by_cases hil:i<ia
  ·have h1:((P i:Nat):Int)<(fa:Int):=by have:=HX.out.mono _ _ hil;rw[<-oC.out]at this;omega
   generalize P i=y at d0 h1;go_wp2;go_round
   case rel=>exact⟨i+1,by omega,by go_num⟩
   case measure=>simp[intOf];omega
  ·obtain rfl:ia=i:=by omega
   have h1:¬((P ia:Nat):Int)<(fa:Int):=by rw[oC.out];omega
   rw[<-oC.out]at d0 h1;have h1':decide ((fa:Int)<(fa:Int))=false:=aK h1;clear h1;go_wp2_with fail;clear d0 h1';go_loop [13] (fun jj=>∃j:Nat,ia<=j/\j<=ib/\jj=.int .i64 j) (fun jj=>ib - (intOf jj).toNat)
   case atStart=>exact⟨ia,ak _,by omega,rfl⟩
   case round =>
    obtain⟨j,hj1,hj2,rfl⟩:=hrel;by_cases hjl:j<ib
    ·have d0:=Jj.out w HL.out.fr j (by omega)
     have Io:(j:Int)<(n:Int):=by omega
     have h1:((P j:Nat):Int)<(tb:Int):=by have:=HX.out.mono _ _ hjl;rw[<-Md.out]at this;omega
     generalize P j=y at d0 h1;go_wp2;go_round
     case rel=>exact⟨j+1,by omega,by omega,by go_num⟩
     case measure=>simp[intOf];omega
    ·obtain rfl:j=ib:=by omega
     have L7:=hid (L6 q C L G ia j w (HPw.out w HL.out.fr) HG.out (by omega) (by rw[Tg.out];exact hrb) (by rw[Tg.out];omega));by_cases hjn:j<n
     all_goals (
      first
      | (have d0:=Jj.out w HL.out.fr j hjn
         rw[<-Md.out]at d0
         have Io:(j:Int)<(n:Int):=by omega
         have h1':decide ((tb:Int)<(tb:Int))=false:=aK (by omega))
      | (have Io:¬(j:Int)<(n:Int):=by omega
         have aak:decide ((j:Int)<(n:Int))=false:=aK Io)
      go_wp2_with fail
      refine L7.out.mono ?_
      rintro e w1 ⟨vE,rfl,hoE,hfE⟩
      have hWw:=HL.out.fr.size
      have aen:=hfE.size
      have Ww:=hid ((HL.out.iS hfE).mono (a_ hU aen))
      have jK:=hid hoE
      clear hoE hfE L7
      first | clear d0 Io h1' | clear Io aak
      obtain⟨gE,cE,hvE⟩:=fR (by omega) jK.out
      subst hvE
      obtain⟨aC,cC,Me⟩:=gA Ww.out.wT
      rw[rP]at Me
      subst Me
      have m2:=fN Ww.out.obj (i:=2) rfl
      go_wp2_with fail
      clear m2
      go_loopw [16,17] (fun vo kk wr=>∃(k m:Nat) (vC:Value),kk=.int .i64 k/\k<=c/\a<=m/\m<=b/\Hid (m=max a (min k b))/\Hid (LD WB wr w1.heap.size lb s base vC vL (rO P ri Ev W m) Ls hs)/\Hid (wr.ownsRow w1.heap.size 3 1 vo (m - a) (gu (evs ri Ev a (m - a))))/\Hid (wr.ownsRow w.heap.size 3 1 (.slice (some ⟨gE,0,none⟩) (j - ia) cE) (j - ia) (gu (L5 q.K L q.base ia j (j - ia))))/\w1.heap.size<=wr.heap.size) (fun _ kk _=>c - (intOf kk).toNat)
      case atStart=>exact⟨0,a,_,rfl,aH _,ak _,by omega,hid (by omega),Ww,hid (by rw[bY];exact eY _ _ _ _),jK,ak _⟩
      case round =>
       obtain⟨k,m,Mc,rfl,hkc,ham,hmb,HM,PT,HO,HE,PU⟩:=hrel
       obtain⟨wk,hwk⟩:∃wk,wk=wr:=⟨_,rfl⟩
       subst hwk
       by_cases hkl:k<c
       ·skip
        as_aux_lemma =>
                  have d0:=HBw.out wk PT.out.fr k (by omega)
                  rw[qM.out k (by omega)]at d0
                  have sX:(k:Int)+1<(c:Int)+1:=by omega
                  by_cases hka:k<a
                  ·have h1:((P (ri k):Nat):Int)<(fa:Int):=by
                    have:=HX.out.mono _ _ (HX.out.T1 k a hka (by omega));rw[<-HIA.out,<-oC.out]at this;omega
                   generalize P (ri k)=y at d0 h1
                   go_wp2
                   go_roundw
                   case rel=>exact⟨k+1,m,Mc,by go_num,by omega,ham,hmb,hid (by have:=HM.out;omega),PT,HO,HE,PU⟩
                   case measure=>simp[intOf];omega
                  ·by_cases hkb:k<b
                   ·have hmk:m=k:=by have:=HM.out;omega
                    subst hmk
                    have d1:=HBw.out wk PT.out.fr (m+1) (by omega)
                    rw[qM.out (m+1) (by omega)]at d1
                    have hrk:ri m<ri (m+1):=HX.out.T1 m (m+1) (by omega) (by omega)
                    have aaz:ia<=ri m:=by
                     rcases aA ham with h | h
                     ·have:=HX.out.T1 a m h (by omega);rw[HIA.out];omega
                     ·rw[HIA.out,h];exact ak _
                    have ajj:ri (m+1)<=j:=by
                     rcases aA (show m+1<=b by omega)with h | h
                     ·have:=HX.out.T1 (m+1) b h (by omega);rw[PR.out];omega
                     ·rw[PR.out,h];exact ak _
                    have HCO:=hid (Mb P ri Ev W m)
                    have HCV:=hid (show Ma P ri Ev W m=(((P (ri m):Nat):Int),((P (ri (m+1)):Nat):Int),Ev (ri m),wid W (ri m) (ri (m+1)))from rfl)
                    have ZE:=hid (show evs ri Ev a (m+1 - a)=evs ri Ev a (m - a)++[Ev (ri m)] by
                     rw[show m+1 - a=(m - a)+1 by omega,PI,show a+(m - a)=m by omega])
                    have T4:=hid (fun x (h:x<ri m)=>HX.out.mono x (ri m) h)
                    have aaB:=hid (fun x (h:x<ri (m+1))=>HX.out.mono x (ri (m+1)) h)
                    have Xu:=hid (fun x (h:ri m<x)=>HX.out.mono (ri m) x h)
                    have Wx:=hid (fun x (h:ri (m+1)<x)=>HX.out.mono (ri (m+1)) x h)
                    obtain⟨e0,he0⟩:∃e0,e0=P (ri m):=⟨_,rfl⟩
                    obtain⟨e1,he1⟩:∃e1,e1=P (ri (m+1)):=⟨_,rfl⟩
                    have hfe:fa<=e0:=by
                     rcases aA aaz with h | h
                     ·have:=T4.out ia h;rw[<-oC.out]at this;omega
                     ·rw[he0,<-h,<-oC.out];exact ak _
                    have hte:e0<tb:=by have:=HX.out.mono (ri m) j (by omega);rw[<-Md.out]at this;omega
                    rw[<-he0]at d0 HCV T4 Xu
                    rw[<-he1]at d1 HCV aaB Wx
                    have PV:=hid he0
                    have aer:=hid he1
                    clear he0 he1
                    generalize hr0:ri m=r0 at *
                    generalize hr1:ri (m+1)=r1 at *
                    clear hr0 hr1
                    have h1:¬(e0:Int)<(fa:Int):=by omega
                    have h2:¬(tb:Int)<=(e0:Int):=by omega
                    have h2':decide ((tb:Int)<=(e0:Int))=false:=aK h2
                    have hgB:gB<wk.heap.size:=eS _ _ d0
                    have hmI:(m:Int)<(c:Int)+1:=by omega
                    have ajk:(m:Int)+1<(c:Int)+1:=by omega
                    go_wp2_with fail
                    go_region
                    have Ol:=hid (show(wk.alloc (.cells #[.int .i64 (e0:Nat),.int .i64 (e1:Nat),.int .i64 (-1),.int .i64 0] 48)).drew.heap[wk.heap.size]?=some (.cells #[.int .i64 (e0:Nat),.int .i64 (e1:Nat),.int .i64 (Cl Ev r0 ia),.int .i64 (wid W r0 (min (max ia r0) r1))] 48 (0,0)) by
                     rw[Cl,ay aaz,show min (max ia r0) r1=r0 by omega,Gz];exact fU wk _)
                    have Ep:=hid (((Fr.refl [] wk).alloc (.cells #[.int .i64 (e0:Nat),.int .i64 (e1:Nat),.int .i64 (-1),.int .i64 0] 48)).drew)
                    clear d0 d1
                    go_wp2_with fail
                    go_loopw [19] (fun mm wx=>∃t:Nat,mm=.int .i64 t/\ia<=t/\t<=j/\Hid (Fr [] wk wx)/\Hid (wx.heap[wk.heap.size]?=some (.cells #[.int .i64 (e0:Nat),.int .i64 (e1:Nat),.int .i64 (Cl Ev r0 t),.int .i64 (wid W r0 (min (max t r0) r1))] 48 (0,0)))) (fun mm _=>j - (intOf mm).toNat)
                    case atStart=>exact⟨ia,rfl,ak _,by omega,Ep,Ol⟩
                    case round =>
                     obtain⟨t,rfl,hti,htj,GK,PX⟩:=hrel
                     have On:=hid (PT.out.iS GK.out)
                     have s0:=fN PX.out (i:=0) rfl
                     have s1:=fN PX.out (i:=1) rfl
                     have s2:=fN PX.out (i:=2) rfl
                     have s3:=fN PX.out (i:=3) rfl
                     by_cases htl:t<j
                     ·skip
                      as_aux_lemma =>
                       have p0:=(HPw.out wr On.out.fr).c0
                       rw[Tg.out]at p0
                       have p1:=Jj.out wr On.out.fr t (by omega)
                       have p2:=HWw.out wr On.out.fr t (by omega)
                       have T5:(t:Int)<(j:Int):=by omega
                       have htn:(t:Int)<(n:Int):=by omega
                       by_cases ht0:t<r0
                       ·have h3:¬((e0:Nat):Int)<=((P t:Nat):Int):=by have:=T4.out t ht0;omega
                        have h3':decide (((e0:Nat):Int)<=((P t:Nat):Int))=false:=aK h3
                        have h3n:decide (e0<=P t)=false:=aK (by omega)
                        generalize P t=y at p1 h3 h3' h3n
                        have T6:=hid (show Cl Ev r0 (t+1)=Cl Ev r0 t/\min (max (t+1) r0) r1=min (max t r0) r1 from⟨by rw[Cl,Cl,ay (by omega),ay (by omega)],by omega⟩)
                        clear s1 s2 s3 p2
                        go_wp2_with fail
                        go_quiet (fail)
                        go_wp2
                        go_roundw
                        case rel=>exact⟨t+1,by go_num,by omega,by omega,hid (GK.out.drewN _),hid (by rw[T6.out.1,T6.out.2];exact PX.out)⟩
                        case measure=>simp[intOf];omega
                       ·by_cases ht1:t<r1
                        ·have h3:((e0:Nat):Int)<=((P t:Nat):Int):=by
                             rcases aA (Nat.le_of_not_lt ht0)with h | h
                             ·have:=Xu.out t h;omega
                             ·rw[<-h,<-PV.out];omega
                         have h4:((P t:Nat):Int)<((e1:Nat):Int):=by have:=aaB.out t ht1;omega
                         have h3n:e0<=P t:=by omega
                         have h4n:P t<e1:=by omega
                         have Mf:=pS W 1073741824 HX.out.wb r0 (min (max t r0) r1 - r0)
                         have hwt:=HX.out.wb t
                         have lQ:=hid (show wid W r0 (min (max (t+1) r0) r1)=wid W r0 (min (max t r0) r1)+nth W t by
                             rw[show min (max (t+1) r0) r1=t+1 by omega,show min (max t r0) r1=t by omega,Cc W (by omega)])
                         have hwd:0<=wid W r0 (min (max t r0) r1)/\wid W r0 (min (max t r0) r1)<=1000000000000:=by
                             have h5:((min (max t r0) r1 - r0:Nat):Int)<=400:=by omega
                             have h6:=Mf.2
                             have h7:((min (max t r0) r1 - r0:Nat):Int) * 1073741824<=400 * 1073741824:=b9 h5 (by omega)
                             exact⟨Mf.1,by rw[wid];omega⟩
                         obtain⟨ajl,ajm⟩:=hwd
                         obtain⟨ajn,ajo⟩:=hwt
                         have f2:=fT PX.out 2
                         have f3:=fT PX.out 3
                         have hgW:gW<wk.heap.size:=by
                             have h:=eS _ _ (HWw.out wk PT.out.fr 0 (by omega));exact h
                         have aaC:gW≠wk.heap.size:=by omega
                         clear Mf
                         generalize wid W r0 (min (max t r0) r1)=wd at *
                         generalize nth W t=wt at *
                         generalize P t=y at *
                         by_cases Xv:t=r0
                         ·have xD:Cl Ev r0 t=-1:=by rw[Cl,ay (by omega)]
                          rw[xD]at s2
                          have T6:=hid (show Cl Ev r0 (t+1)=Ev t by rw[Cl,au (by omega),Xv])
                          have le:=(fS HE.out GK.out).cellAt (t - ia) (by omega)
                          rw[iJ (by simp[L5];omega)]at le
                          have hle:nth (L5 q.K L q.base ia j (j - ia)) (t - ia)=Ev t:=by
                           have h5:t - ia<j - ia:=by omega
                           rw[<-HEV.out t hti htl]
                           simp only[L5,nth,bV,List.getElem?_range h5,Option.map_some,dB]
                           rw[show ia+(t - ia)=t by omega]
                          rw[hle]at le
                          have hwr:IntKind.i64.wrap ((t:Int) - (ia:Int))=((t - ia:Nat):Int):=by rw[eT];omega
                          have ajp:(t:Int) - (ia:Int)=((t - ia:Nat):Int):=by omega
                          have ahw:((t - ia:Nat):Int)<((j - ia:Nat):Int):=by omega
                          have hgE:gE≠wk.heap.size:=by have:=(fZ HE.out).2;omega
                          generalize Ev t=PY at *
                          have HT0:=hid Xv
                          clear xD hle Xv
                          go_wp2_with fail
                          go_quiet (fail)
                          go_wp2_with fail
                          go_region
                          go_wp2
                          go_roundw
                          case rel =>
                           refine⟨t+1,by go_num,by omega,by omega,?_,?_⟩
                           ·exact hid ((((GK.out.drewN _).fQ (ak _)).drew).fQ (ak _))
                           ·rw[T6.out,lQ.out]
                            exact hid (fP (fP PX.out 2 (.int .i64 PY)) 3 (.int .i64 (wd+wt)))
                          case measure=>simp[intOf];omega
                         ·have ajq:r0<t:=by omega
                          have xD:Cl Ev r0 t=Ev r0:=by rw[Cl,au (by omega)]
                          rw[xD]at s2
                          have hev:=(HX.out.ev r0).1
                          have T6:=hid (show Cl Ev r0 (t+1)=Cl Ev r0 t by rw[Cl,Cl,au (by omega),au (by omega)])
                          generalize Ev r0=PY at *
                          have ajr:¬PY<0:=by omega
                          clear xD
                          go_wp2_with fail
                          go_quiet (fail)
                          go_wp2_with fail
                          go_region
                          go_wp2
                          go_roundw
                          case rel =>
                           refine⟨t+1,by go_num,by omega,by omega,?_,?_⟩
                           ·exact hid (((GK.out.drewN _).drew).fQ (ak _))
                           ·rw[T6.out,lQ.out]
                            exact hid (fP PX.out 3 (.int .i64 (wd+wt)))
                          case measure=>simp[intOf];omega
                        ·have h3:((e0:Nat):Int)<=((P t:Nat):Int):=by have:=Xu.out t (by omega);omega
                         have h4:¬((P t:Nat):Int)<((e1:Nat):Int):=by
                             rcases aA (Nat.le_of_not_lt ht1)with h | h
                             ·have:=Wx.out t h;omega
                             ·rw[<-h,<-aer.out];omega
                         have h4':decide (((P t:Nat):Int)<((e1:Nat):Int))=false:=aK h4
                         have h4n:decide (P t<e1)=false:=aK (by omega)
                         generalize P t=y at p1 h3 h4 h4' h4n
                         have T6:=hid (show Cl Ev r0 (t+1)=Cl Ev r0 t/\min (max (t+1) r0) r1=min (max t r0) r1 from⟨by rw[Cl,Cl,au (by omega),au (by omega)],by omega⟩)
                         clear s2 s3 p2
                         go_wp2_with fail
                         go_quiet (fail)
                         go_wp2
                         go_roundw
                         case rel=>exact⟨t+1,by go_num,by omega,by omega,hid (GK.out.drewN _),hid (by rw[T6.out.1,T6.out.2];exact PX.out)⟩
                         case measure=>simp[intOf];omega
                     ·obtain rfl:t=j:=by omega
                      have hv1:Cl Ev r0 t=Ev r0:=by rw[Cl,au (by omega)]
                      have hv2:min (max t r0) r1=r1:=by omega
                      rw[hv1]at s2
                      rw[hv2]at s3
                      have HCz:=hid (show wr.heap[wk.heap.size]?=some (.cells #[.int .i64 (e0:Nat),.int .i64 (e1:Nat),.int .i64 (Ev r0),.int .i64 (wid W r0 r1)] 48 (0,0)) by have h:=PX.out;rw[hv1,hv2]at h;exact h)
                      obtain⟨PY,aaD⟩:∃PY,PY=Ev r0:=⟨_,rfl⟩
                      obtain⟨wdd,aaE⟩:∃wdd,wdd=wid W r0 r1:=⟨_,rfl⟩
                      rw[<-aaD]at s2 HCz HCV ZE
                      rw[<-aaE]at s3 HCz HCV
                      obtain⟨aC,nC,Th,Me,hnC⟩:∃aC nC Th,Mc=.slice aC nC Th/\nC=m:=by
                       obtain⟨aC,Th,h⟩:=gA PT.out.wT
                       rw[rP]at h
                       exact⟨aC,m,Th,h,rfl⟩
                      subst Me
                      have Wy:=hid hnC
                      have l2:=fN On.out.obj (i:=2) rfl
                      have lf2:=fT On.out.obj 2
                      have ajs:=h_ On.out.obj
                      have ajt:lb≠wr.heap.size:=by omega
                      have hNL:=hid (show nC=(rO P ri Ev W m).length by rw[rP];exact hnC)
                      have hnM:nC<=400:=by rw[hnC];omega
                      have hsz1:=On.out.fr.size
                      have Mg:=hid (On.out.wT)
                      rw[<-hNL.out]at Mg
                      clear hnC hv1 hv2 aaD aaE
                      go_wp2_with fail
                      go_region_law (refine GC rfl (.tmp 158) (.tmp 160) 41 rfl WB.heap.size 48 i48 _ 4 32 underlying41 aej hy0 hy1 hy2 rfl (by decide) (.slice aC nC Th) nC (mV (rO P ri Ev W m)) ?q1 ?q2 ⟨wr.heap.size,0,none⟩ 1 1 [.int .i64 (e0:Nat),.int .i64 (e1:Nat),.int .i64 PY,.int .i64 wdd] ?q3 rfl ?q4 (Py _ _ _ _) (by unfold maxLen;omega) (by omega) ?q5 ?_;(case q1=>simp[Act.eval]);(case q2=>exact fS Mg.out (((Fr.refl [] wr).drew).alloc _));(case q3=>simp[Act.eval]);(case q4=>exact iC _ _ _ _ (by simp));(case q5=>simp;omega);intro v' w' hown hgrow;obtain⟨g',c',hv'⟩:=fR (by omega) hown;subst hv';have Fq:=hid (On.out.push hNL.out (((Fr.refl [] wr).drew).alloc _) hown hgrow);have g1:=fN Fq.out.1 (i:=2) rfl;have g2:=fT Fq.out.1 2;have hgz:=hid hgrow;clear hown hgrow)
                      all_goals (
                       have hkC:wk.heap.size<wr.heap.size:=h_ HCz.out
                       have hz1:w'.heap[wk.heap.size]?=some (.cells #[.int .i64 (e0:Nat),.int .i64 (e1:Nat),.int .i64 PY,.int .i64 wdd] 48 (0,0)):=by
                        rw[hgz.out.block _ (by simp;omega) (fun e=>by have h5:=(PT.out.wT.lt _ e.symm).2;exact Nat.lt_irrefl _ h5)]
                        exact fO HCz.out (((Fr.refl [] wr).drew).alloc _) af
                       have aaF:=PT.out.lt
                       have aes:=PT.out.fr.size
                       have z2:(w'.setCell ⟨lb,2,none⟩ (.slice (some ⟨g',0,none⟩) (nC+1) c')).cell? ⟨wk.heap.size,2,none⟩=some (.int .i64 PY):=by
                        have hne5:(⟨wk.heap.size,2,none⟩:Addr)≠⟨lb,2,none⟩:=fun e=>by have h5:=congrArg Addr.block e;dsimp only at h5;omega
                        first | rw[fD _ _ _ _ hne5] | rw[fD _ _ _ _ hne5.symm]
                        exact fN hz1 rfl
                       obtain⟨W2,hW2⟩:∃W2,W2=w'.setCell ⟨lb,2,none⟩ (.slice (some ⟨g',0,none⟩) (nC+1) c'):=⟨_,rfl⟩
                       have HL2:=hid Fq.out.2.1
                       have iG:=hid (Fq.out.2.2 _ 3 _ _ _ (.inl rfl) (fS (fS HO.out GK.out) (((Fr.refl [] wr).drew).alloc _)))
                       have HE2:=hid (Fq.out.2.2 _ 3 _ _ _ (.inl rfl) (fS (fS HE.out GK.out) (((Fr.refl [] wr).drew).alloc _)))
                       rw[<-hW2]at z2 HL2 iG HE2 ⊢
                       have hsz2:w1.heap.size<=W2.heap.size:=by
                        rw[hW2];have h1:=hgz.out.size;simp at h1 ⊢;omega
                       clear hW2 hz1 aaF aes Fq hgz g1 g2 s0 s1 s2 s3 l2 lf2
                       go_wp2_with (at_builtin;refine eV _ rfl _ _ 22 rfl w1.heap.size 3 i3 _ 1 8 underlying22 hi3 rQ rS hz32 rfl (by decide) _ (m - a) (gu (evs ri Ev a (m - a))) rfl ?own _ 1 1 [.int .i64 PY] rfl rfl (iC _ _ _ _ (by simp)) (one_cell _) (by unfold maxLen;omega) (by omega) ?nY ?_)
                       case own=>exact iG.out.alloc _
                       case nY=>simp;omega
                       intro v4 w4 yh hgrow hnil
                       have HL4:=hid ((HL2.out.iS ((Fr.refl [] W2).alloc _)).grow hgrow (by omega) (fun g hg=>⟨(iG.out.lt g hg).1,by
                        obtain⟨cs,t',f,h5,h6⟩:=ko (iG.out.alloc (.cells #[.int .i64 PY] 3)) hg
                        exact⟨cs,t',f,h5,.inl h6⟩⟩))
                       have KO:=hid (iF (HE2.out.alloc _) hgrow (fun g hg e=>by have h5:=(iG.out.lt _ e.symm).1;have h6:=(fZ jK.out).2;cases hg;exact absurd h6 (Nat.not_lt.2 h5)))
                       have jD:=hid (show w4.ownsRow w1.heap.size 3 1 v4 (m+1 - a) (gu (evs ri Ev a (m+1 - a))) by rw[ZE.out,<-mh,show m+1 - a=(m - a)+1 by omega];exact yh)
                       have aet:w1.heap.size<=w4.heap.size:=by have h1:=hgrow.size;simp at h1;omega
                       clear yh hgrow hnil
                       go_wp2
                       go_roundw
                       case rel=>exact⟨m+1,m+1,_,by go_num,by omega,by omega,by omega,hid (by omega),hid (by rw[HCO.out,HCV.out];exact HL4.out),jD,KO,aet⟩
                       case measure=>simp[intOf];omega)
                   ·have h1:¬((P (ri k):Nat):Int)<(fa:Int)/\(tb:Int)<=((P (ri k):Nat):Int):=by
                     rcases aA (Nat.le_of_not_lt hkb)with h | h
                     ·have:=HX.out.mono _ _ (HX.out.T1 b k h (by omega));rw[<-PR.out,<-Md.out]at this;omega
                     ·rw[<-h,<-PR.out,<-Md.out];omega
                    obtain⟨h1,h2⟩:=h1
                    generalize P (ri k)=y at d0 h1 h2
                    go_wp2
                    go_roundw
                    case rel=>exact⟨k+1,m,Mc,by go_num,by omega,ham,hmb,hid (by have:=HM.out;omega),PT,HO,HE,PU⟩
                    case measure=>simp[intOf];omega
       ·have aeu:m=b:=by have:=HM.out;omega
        subst aeu
        obtain rfl:k=c:=by omega
        obtain⟨N,hN⟩:∃N,N=m - a:=⟨_,rfl⟩
        rw[<-hN]at HO
        have hN0:0<N:=by omega
        have hN4:N<=400:=by omega
        obtain⟨gO,cO,hvo⟩:=fR hN0 HO.out
        subst hvo
        have HVb:=hid (fun i=>show 0<=nth (evs ri Ev a N) i/\nth (evs ri Ev a N) i<=1000 by
                  by_cases h:i<N
                  ·have h5:=HX.out.ev (ri (a+i));rw[PJ h];omega
                  ·rw[nth,bq (by simp[evs];omega)];decide)
        have A6:=hid (TN (evs ri Ev a N) N gO cO wk hN0 (by omega) (fun i hi=>by rw[HO.out.cellAt i (by omega),iJ (by simp[evs];exact hi)]) HVb.out)
        obtain⟨od,hod⟩:∃od,od=mG (nth (evs ri Ev a N)) N:=⟨_,rfl⟩
        rw[<-hod]at A6
        have Ft:=hid (show od=mG (fun t=>Ev (ri (a+t))) N by rw[hod];exact Cj (fun t ht=>PJ ht))
        have sZ:=hid (show yf P ri Ev W a m=⟨((P (ri a):Nat):Int),((P (ri m):Nat):Int),od.map (fun t=>t+a),xs (fun k=>wid W (ri k) (ri (k+1))) (od.map (fun t=>t+a)) N⟩ by rw[yf,Ft.out,<-hN])
        have aaG:od.length=N:=by rw[hod,oY]
        have aaH:∀t,t<N->fX od t<N:=fun t ht=>by rw[hod];exact xS _ _ _ (kK (by rw[oY];exact ht))
        have Mh:=hid aaG
        have aaI:=hid aaH
        have iA:=hid hN
        have hNa:N+a<=m:=by omega
        clear hod aaG aaH hN Ft HVb HM
        go_wp2_with fail
        refine A6.out.mono ?_
        rintro e w5 ⟨go,co,rfl,hoO,hfO⟩
        have HL5:=hid (PT.out.iS hfO)
        have qZ:=hid hoO
        have hsz5:=hfO.size
        have ajv:=fZ hoO
        obtain⟨gC,Th,Me⟩:=fR (by rw[rP];omega) HL5.out.wT
        rw[rP]at Me
        subst Me
        clear hoO hfO A6 HE HO
        have PZ:=hid (fun k' (hk':k'<k)=>show 0<=wid W (ri k') (ri (k'+1))/\wid W (ri k') (ri (k'+1))<=429496729600 by
                 have h1:=pS W 1073741824 HX.out.wb (ri k') (ri (k'+1) - ri k')
                 have h2:ri (k'+1)<=n:=by
                  rcases aA (show k'+1<=k by omega)with h | h
                  ·have:=HX.out.T1 (k'+1) k h (ak _);rw[HX.out.ric]at this;omega
                  ·rw[h,HX.out.ric];exact ak _
                 have h3:((ri (k'+1) - ri k':Nat):Int) * 1073741824<=400 * 1073741824:=b9 (by omega) (by omega)
                 rw[wid];exact⟨h1.1,by omega⟩)
        obtain⟨f,hf⟩:∃f,f=fun k=>wid W (ri k) (ri (k+1)):=⟨_,rfl⟩
        rw[<-hf]at sZ
        have Ab:=hid (fun k'=>show f k'=wid W (ri k') (ri (k'+1)) by rw[hf])
        obtain⟨O,hO⟩:∃O,O=od.map (fun t=>t+a):=⟨_,rfl⟩
        rw[<-hO]at sZ
        have HOO:=hid hO
        have Ir:=hid (show O.length=N by rw[hO,dm];exact Mh.out)
        have HON:=hid (fun t (ht:t<N)=>show fX O t=fX od t+a by rw[hO];exact Fp (by rw[Mh.out];exact ht))
        clear hf hO
        go_wp2_with fail
        go_loopw [21,22] (fun vx kk wr=>∃(t gx cx:Nat),kk=.int .i64 t/\vx=.slice (some ⟨gx,0,none⟩) (t+1) cx/\t<=N/\Hid (LD WB wr w1.heap.size lb s base (.slice (some ⟨gC,0,none⟩) m Th) vL (rO P ri Ev W m) Ls hs)/\Hid (wr.ownsRow wk.heap.size 3 1 (.slice (some ⟨go,0,none⟩) N co) N (gz (O.take t++od.drop t)))/\Hid (wr.ownsRow w5.heap.size 2 1 (.slice (some ⟨gx,0,none⟩) (t+1) cx) (t+1) (gu (xs f O t)))/\w5.heap.size<=wr.heap.size) (fun _ kk _=>N - (intOf kk).toNat)
        case atStart=>exact⟨0,w5.heap.size,1,rfl,rfl,aH _,hid (HL5.out.iS ((Fr.refl [] w5).alloc _)),hid (by simpa using qZ.out.alloc _),hid (fE (base:=w5.heap.size) (e:=2) (size:=1) w5 #[.int .i64 0] 1 (ak _) (by decide) rfl),by simp⟩
        case round =>
                 obtain⟨t,gx,cx,rfl,rfl,htN,T7,Xw,Wz,aaK⟩:=hrel
                 by_cases htl:t<N
                 ·skip
                  as_aux_lemma =>
                   have T5:(t:Int)<(N:Int):=by omega
                   have hTL:(O.take t++od.drop t).length=N:=by rw[aG,aP,bu,Ir.out,Mh.out];omega
                   have o0:=Xw.out.cellAt t (by omega)
                   rw[kJ (by omega),Xt (by rw[Ir.out];omega)]at o0
                   have o1:=Xw.out.frozenAt t
                   have hxN:=aaI.out t htl
                   have Xx:=hid (HON.out t htl)
                   have HST:=hid (PK (O:=O) (od:=od) (by rw[Mh.out];exact htl) (by rw[Ir.out,Mh.out]) Xx.out)
                   have HXS:=hid (KN f O t)
                   have ZF:=hid (Es f O (ak t))
                   have hxb:=uh f 429496729600 O t (fun j hj=>by rw[Ab.out,HON.out j (by omega)];exact PZ.out _ (by have:=aaI.out j (by omega);omega))
                   have hwb:=PZ.out (fX od t+a) (by omega)
                   rw[<-Ab.out,<-Xx.out]at hwb
                   have hCa:=(p_ _ _ _ (T0 P ri Ev W (m:=m) (k:=fX od t+a) (by omega))).2.2.2
                   have hxa:o_ f O t<=171798691840000:=by
                    have h5:(t:Int) * 429496729600<=400 * 429496729600:=b9 (by omega) (by omega)
                    omega
                   have hx0:=hxb.1
                   have x0:=Wz.out.cellAt t (by omega)
                   rw[iJ (by rw[qU];omega),Es f O (ak _)]at x0
                   obtain⟨ajy,ajz⟩:=hwb
                   have HWV:=hid (show(Ma P ri Ev W (fX od t+a)).2.2.2=f (fX O t) by rw[Ab.out,Xx.out];rfl)
                   rw[HWV.out]at hCa
                   have WA:=hid hCa
                   clear hCa hxb
                   generalize o_ f O t=sx at *
                   generalize f (fX O t)=wd at *
                   obtain⟨x,hx⟩:∃x,x=fX od t:=⟨_,rfl⟩
                   rw[<-hx]at o0 hxN HST WA
                   clear hx
                   obtain⟨y,hy⟩:∃y,y=x+a:=⟨_,rfl⟩
                   rw[<-hy]at HST WA
                   have hym:y<m:=by omega
                   have hsum:(x:Int)+(a:Int)=(y:Int):=by omega
                   clear hy
                   go_wp2_with fail
                   obtain⟨W',hW'⟩:∃W',W'=wr.setCell ⟨go,t,none⟩ (.int .i64 ((y:Nat):Int)):=⟨_,rfl⟩
                   have hst:=Xw.out.stored t (.int .i64 ((y:Nat):Int))
                   have ajA:=(fZ Xw.out).1
                   rw[<-hW']at hst ⊢
                   have DB:=hid (T7.out.grow hst.2 (by omega) (fun g hg=>by
                    cases hg
                    obtain⟨cs,t',f',h5,h6⟩:=ko Xw.out (g:=go) rfl
                    exact⟨by omega,cs,t',f',h5,.inl h6⟩))
                   have HOW:=hid (show W'.ownsRow wk.heap.size 3 1 (.slice (some ⟨go,0,none⟩) N co) N (gz (O.take (t+1)++od.drop (t+1))) by rw[<-HST.out,<-uO];exact hst.1)
                   have T8:=hid (iV Wz.out hst.2 (fun g hg=>by
                    cases hg
                    obtain⟨cs,t',f',h5,h6⟩:=ko Xw.out (g:=go) rfl
                    exact⟨cs,t',f',h5,by rw[h6];decide⟩))
                   have q1:=fN DB.out.obj (i:=2) rfl
                   have q2:W'.cell? ⟨go,t,none⟩=some (.int .i64 ((y:Nat):Int)):=by rw[hW'];exact fG _ _ _ o0
                   have q3:W'.cell? ⟨gC,y * 4+3,none⟩=some (.int .i64 wd):=by
                    have h5:=DB.out.wT
                    rw[rP]at h5
                    rw[h5.cellAt _ (by omega)];exact WA.out
                   have q4:W'.cell? ⟨gx,t,none⟩=some (.int .i64 sx):=by
                    rw[T8.out.cellAt t (by omega),iJ (by rw[qU];omega),ZF.out]
                   have hszW:w5.heap.size<=W'.heap.size:=by rw[hW'];simpa using aaK
                   have aaF:=h_ DB.out.obj
                   have ajB:=(fZ HOW.out).2
                   have aaL:go≠gx:=iT HOW.out T8.out (by decide) rfl rfl
                   have aez:gC≠gx:=iT DB.out.wT T8.out (by decide) rfl rfl
                   have ajC:=(fZ T8.out).1
                   have aeA:=DB.out.lt
                   have ajD:=(fZ T8.out).2
                   have aeB:=eS _ _ q3
                   have hxm:((y:Nat):Int)<(m:Int):=by omega
                   have htt:(t:Int)<(t:Int)+1:=by omega
                   have hsw:sx+wd<=1000000000000000:=by omega
                   clear hW' hst o0 o1 x0
                   dsimp only at aeB
                   have HKP:=hid (fun(w1' w':World) (hf:Fr [] W' w1') (hg:w1'.grownBy w' (some gx)) (hk:∀j u,(gu (xs f O t))[j]?=some u->w'.cell? ⟨gx,j,none⟩=some u)=>show w'.cell? ⟨lb,2,none⟩=some (.slice (some ⟨gC,0,none⟩) m Th)/\w'.cell? ⟨go,t,none⟩=some (.int .i64 ((y:Nat):Int))/\w'.cell? ⟨gC,y * 4+3,none⟩=some (.int .i64 wd)/\w'.cell? ⟨gx,t,none⟩=some (.int .i64 sx)from
                    ⟨cell_grown hg (hf.cell q1 af) (by omega),cell_grown hg (hf.cell q2 af) aaL,cell_grown hg (hf.cell q3 af) aez,hk t _ (by rw[iJ (by rw[qU];omega),ZF.out])⟩)
                   have aeC:IntKind.i64.wrap (sx+wd)=sx+wd:=by rw[eT];omega
                   go_region_held_law (fun w'=>w'.cell? ⟨lb,2,none⟩=some (.slice (some ⟨gC,0,none⟩) m Th)/\w'.cell? ⟨go,t,none⟩=some (.int .i64 ((y:Nat):Int))/\w'.cell? ⟨gC,y * 4+3,none⟩=some (.int .i64 wd)/\w'.cell? ⟨gx,t,none⟩=some (.int .i64 sx)) (first | exact uj | go_keep) ((refine Eo rfl (.tmp 187) (.tmp 204) 49 rfl w5.heap.size 2 i2 _ 1 8 underlying49 hi2 PM PN PO rfl (by decide) gx (t+1) cx (gu (xs f O t)) ?q1 ?q2 ⟨W'.heap.size,0,none⟩ 1 1 [.int .i64 (sx+wd)] ?q3 rfl ?q4 (one_cell _) (by unfold maxLen;omega) (by omega) ?q5 ?_;(case q1=>first | rfl | simp[Act.eval]);(case q2=>exact fS T8.out (Om _ _));(case q3=>first | rfl | simp[Act.eval]);(case q4=>exact iC _ _ _ _ (by simp));(case q5=>simp;omega);intro v' w' hown hgrow hkeep;obtain⟨g',c',hv'⟩:=fR (by omega) hown;subst hv';have Fu:=hid hown;have HG2:=hid hgrow;have uj:=HKP.out _ _ (Om _ _) hgrow hkeep;clear hown hgrow hkeep))
                   all_goals (
                    have Xy:=hid ((DB.out.iS (Om W' (.cells #[.int .i64 (sx+wd)] 2))).grow HG2.out (by omega) (fun g hg=>by
                     cases hg
                     obtain⟨cs,t',f',h5,h6⟩:=ko (fS T8.out (Om W' (.cells #[.int .i64 (sx+wd)] 2))) (g:=gx) rfl
                     exact⟨by have:=(fZ T8.out).1;omega,cs,t',f',h5,.inr h6⟩))
                    have Xz:=hid (iV (fS HOW.out (Om W' (.cells #[.int .i64 (sx+wd)] 2))) HG2.out (fun g hg=>by
                     cases hg
                     obtain⟨cs,t',f',h5,h6⟩:=ko (fS T8.out (Om W' (.cells #[.int .i64 (sx+wd)] 2))) (g:=gx) rfl
                     exact⟨cs,t',f',h5,by rw[h6];decide⟩))
                    have aeD:w5.heap.size<=w'.heap.size:=by have h5:=HG2.out.size;simp at h5;omega
                    go_wp2
                    go_roundw
                    case rel=>exact⟨t+1,g',c',by go_num,rfl,by omega,Xy,Xz,hid (by rw[HXS.out,<-mh];exact Fu.out),aeD⟩
                    case measure=>simp[intOf];omega)
                 ·obtain rfl:t=N:=by omega
                  have T9:=hid (show wr.ownsRow wk.heap.size 3 1 (.slice (some ⟨go,0,none⟩) t co) t (gz O) by
                   have h:=Xw.out
                   rw[d_ (by rw[Ir.out];exact ak _),dZ (by rw[Mh.out];exact ak _),cD]at h
                   exact h)
                  obtain⟨aL,cL,qw⟩:=gA T7.out.qa
                  subst qw
                  have l3:=fN T7.out.obj (i:=3) rfl
                  have lf3:=fT T7.out.obj 3
                  obtain⟨nL,hnL⟩:∃nL,nL=Ls.length:=⟨_,rfl⟩
                  have tI:=hid T7.out.qa
                  rw[<-hnL]at l3 tI hLl
                  have HNL:=hid hnL
                  have hsz1:=T7.out.fr.size
                  have ajF:=h_ T7.out.obj
                  have aeA:=T7.out.lt
                  clear hnL
                  go_wp2_with (at_builtin;refine eV _ rfl _ _ 43 rfl WB.heap.size 51 i51 _ 4 64 underlying43 Ji hx0 hx1 hx2 rfl (by decide) _ nL hs rfl ?own _ 1 1 [.int .i64 (fa:Nat),.int .i64 (tb:Nat),.slice (some ⟨go,0,none⟩) t co,.slice (some ⟨gx,0,none⟩) (t+1) cx] rfl rfl (iC _ _ _ _ (by simp)) (Ck _ _ _ _ _ _ _ _) (by unfold maxLen;omega) (by omega) ?nY ?_)
                  case own=>exact tI.out.alloc _
                  case nY=>simp;omega
                  intro v' w' hown hgrow hnil
                  obtain⟨g',c',hv'⟩:=fR (by omega) hown
                  subst hv'
                  have hgrow2:=hgrow
                  rw[HNL.out]at hgrow2
                  have Fq:=hid (T7.out.line ⟨((fa:Nat):Int),((tb:Nat):Int),O,xs f O t⟩ HNL.out ((Fr.refl [] wr).alloc _) (U':=w'.heap.size) (by have h5:=hgrow.size;simp at h5;omega) (by dsimp only;rw[Ir.out];exact gY T9.out (by omega)) (by dsimp only;rw[qU];exact gY Wz.out (by omega)) (by have h5:=hgrow.size;simp at h5;omega) hown hgrow2)
                  have g1:=fN Fq.out.1 (i:=3) rfl
                  have g2:=fT Fq.out.1 3
                  rw[<-HNL.out]at g1
                  clear hown hgrow hgrow2 hnil l3 lf3
                  go_wp2
                  go_end0
                  have h9:=Fq.out.2
                  have eL:yf P ri Ev W a m=⟨((fa:Nat):Int),((tb:Nat):Int),O,xs f O t⟩:=by rw[sZ.out,<-HIA.out,<-oC.out,<-PR.out,<-Md.out]
                  have e9:∀(X:World) (v:Value),(X.setCell ⟨lb,3,none⟩ v).heap.size=X.heap.size:=fun X v=>by simp
                  rw[eL,e9]
                  exact⟨rfl,_,_,_,h9⟩)
end Go.Proofs.YtnakejhohdbfdaaGreatDoor

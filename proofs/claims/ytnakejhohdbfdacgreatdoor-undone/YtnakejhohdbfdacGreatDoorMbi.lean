import Derived.Test.YtnakejhohdbfdacGreatDoorMbh
set_option maxHeartbeats 4000000
set_option maxRecDepth 10000
namespace Go.Proofs.YtnakejhohdbfdacGreatDoor
open Go.RowKit j9 Lay pS Go.Proofs.Tryz
def kF (Ls:List Ln)(i:Nat):Ln:=Ls[i]?.getD ⟨0,0,[],[]⟩
structure DG (Bd V:List Int)(Ls:List Ln):Prop where
 vb:∀i,0<=nth V i/\nth V i<=1000
 ob:∀l∈Ls,∀k∈l.o,k<V.length
 xl:∀l∈Ls,l.x.length=l.o.length+1
 xb:∀l∈Ls,∀k,k<l.x.length->0<=nth l.x k/\nth l.x k<=nth l.x (l.x.length - 1)/\nth l.x k<=1000000000000000
theorem zD {f:Nat->Int}{o:List Nat}{M:Int}(h:∀j,0<=f j/\f j<=M):∀k d,rN f o k<=rN f o (k+d)/\rN f o (k+d)<=rN f o k+d * M
 | k,0=>by simp
 | k,d+1=>by
   have ih:=zD (o:=o) h k d;have hh:=h (iP o (k+d));rw[show k+(d+1)=(k+d)+1 from rfl,rN];have e:((d+1:Nat):Int) * M=(d:Int) * M+M:=by rw[eA,Int.add_mul];simp
   rw[e];omega
theorem ny {Ls:List Ln}{i:Nat}(h:i<Ls.length):kF Ls i∈Ls:=by
 rw[kF,aA h];exact bB _
theorem YA {s:ByteArray}{n:Nat}(k:Nat):iP (jd s n) k<=n:=by
 by_cases hk:k<cn s n
 ·exact b7 (Q2 hk)
 ·have hl:=(jA s n).2.1
  by_cases hk2:k=cn s n
  ·rw[hk2,lE];exact au _
  ·rw[iP,bN (by unfold cn at hk hk2;omega)];exact aN _
theorem Q4 {s:ByteArray}{n:Nat}(hn:0<n)(Jb:n<=400){bs:Int}(hb:bs=0\/bs=1){W Br:List Int}(hW:∀i,0<=nth W i/\nth W i<=1073741824)(E:rP s n Br)(hc:cn s n<=400):DG (bnd s n) (Ie s n bs Br) (Ic s n bs W Br (Br.length+1)):=by
 have hvl:(Ie s n bs Br).length=cn s n:=by rw[Ie,uV,<-oU hn]
 have abO:∀k,0<=wid W (iP (jd s n) k) (iP (jd s n) (k+1))/\wid W (iP (jd s n) k) (iP (jd s n) (k+1))<=429496729600:=fun k=>by
  have h1:=uO W 1073741824 hW (iP (jd s n) k) (iP (jd s n) (k+1) - iP (jd s n) k);have h2:=YA (s:=s) (n:=n) (k+1);unfold wid;omega
 have hl:∀l∈Ic s n bs W Br (Br.length+1),∃a b,a<=b/\b<=cn s n/\l=EZ (Dec.pos s) (iP (jd s n)) (AO s n bs Br) W a b:=fun l hl=>by
  obtain⟨j,hj,rfl⟩:=dX.1 hl;have hj:=cE.1 hj;exact⟨_,_,b7 (E.mono j (j+1) (by omega) (by omega)),E.le (j+1) (by omega),rfl⟩
 refine⟨QA (fun i=>?_),fun l hm k hk=>?_,fun l hm=>?_,fun l hm k hk=>?_⟩
 ·by_cases hi:i<n
  ·rw[xY (by rw[nC _ _ _ hb,oG];exact hi)]
   have:=D_ (Rl s n) (Kl s n) bs hb (TF (jd s n) (bnd s n) Br) i;omega
  ·rw[rT (by rw[mC,nC _ _ _ hb,oG];omega)];decide
 ·obtain⟨a,b,hab,hbc,rfl⟩:=hl l hm
  obtain⟨t,ht,rfl⟩:=dX.1 (show k∈(nY _ (b - a)).map _ from hk);have:=A5 _ _ t ht;rw[hvl];omega
 ·obtain⟨a,b,hab,hbc,rfl⟩:=hl l hm
  unfold EZ;dsimp only;rw[zh,cP,rH]
 ·obtain⟨a,b,hab,hbc,rfl⟩:=hl l hm
  unfold EZ at hk ⊢;dsimp only at hk ⊢;rw[zh]at hk ⊢;rw[Ky _ _ (by omega),Ky _ _ (by omega)];have m1:=zD (f:=fun k=>wid W (iP (jd s n) k) (iP (jd s n) (k+1))) (o:=(nY (fun t=>AO s n bs Br (iP (jd s n) (a+t))) (b - a)).map (fun t=>t+a)) abO 0 k;have m2:=zD (f:=fun k=>wid W (iP (jd s n) k) (iP (jd s n) (k+1))) (o:=(nY (fun t=>AO s n bs Br (iP (jd s n) (a+t))) (b - a)).map (fun t=>t+a)) abO k (b - a - k);rw[dL]at m1;rw[show k+(b - a - k)=b - a+1 - 1 by omega]at m2;have e0:rN (fun k=>wid W (iP (jd s n) k) (iP (jd s n) (k+1))) ((nY (fun t=>AO s n bs Br (iP (jd s n) (a+t))) (b - a)).map (fun t=>t+a)) 0=0:=rfl;rw[e0]at m1;refine⟨m1.1,m2.1,Int.le_trans m1.2 ?_⟩;omega
theorem Q5:DG [0] [] [QX]:=by
 refine⟨fun i=>?_,fun l hl k hk=>?_,fun l hl=>?_,fun l hl k hk=>?_⟩
 ·rw[rT (by simp)];decide
 ·rw[ak.1 hl]at hk;cases hk
 ·rw[ak.1 hl];rfl
 ·rw[ak.1 hl]at hk ⊢
  obtain rfl:k=0:=by simp[QX]at hk;exact hk
  decide
theorem qH {Ls:List Ln}{i:Nat}(h:i<Ls.length):Ls[i]?=some (kF Ls i):=by rw[kF,aA h];rfl
def iR (Bd:List Int)(z off:Int)(back:Bool):Int × Bool :=
 let o:=best Bd (min (max off 0) z) Bd.length
 (o,if o=0 then false else if o=z then true else back)
theorem KN {w W:World}(o1:Obj){x0 x1 y0 y1:Value}{t:Nat}(h:Fr [w.heap.size] ((w.alloc o1).alloc (.cells #[x0,x1] t)) W):((W.setCell ⟨w.heap.size+1,0,none⟩ y0).setCell ⟨w.heap.size+1,1,none⟩ y1).heap[w.heap.size+1]?=some (.cells #[y0,y1] t (0,0)):=by
 have hs:(w.alloc o1).heap.size=w.heap.size+1:=by simp
 have h0:=iL (w.alloc o1) (.cells #[x0,x1] t);rw[hs]at h0;exact iI (iI (iJ h0 h (by simp)) 0 y0) 1 y1
theorem UB (Bd:List Int)(z:Int)(hr:jN Bd z)(gB cB nB:Nat)(v1 v2:Value)(w:World)(hn:nB=Bd.length)(hl:nB<=1000)(hB:rowAt w gB nB Bd) :
 Calls prog 130 #[.agg #[.slice (some ⟨gB,0,none⟩) nB cB,v1,v2]] w fun e w'=>e=.returned (.int .i64 z)/\w'=w.alloc (.cells #[.slice (some ⟨gB,0,none⟩) nB cB,v1,v2] 146):=by
 have hl0:=hr.len;obtain⟨m,hm⟩:∃m,m=nB - 1:=⟨_,rfl⟩;have hz:nth Bd m=z:=by rw[hm,hn,nth,hr.last];rfl
 have c1:=hB m (by omega);rw[hz]at c1;have hw1:IntKind.i64.wrap ((nB:Int) - 1)=(m:Int):=by rw[fM];omega
 have hmI:(m:Int)<(nB:Int):=by omega
 have hgl:=fC _ _ c1;dsimp only at hgl;clear hB hr hz hm hn;go_enter func130,ntmps130;go_wp2;go_ret;exact⟨rfl,rfl⟩
theorem abP {w W:World}{o1:Obj}{x0 x1 y0 y1:Value}{Q:Ending->World->Prop}{tm:Array Value}(Zw:tm.getD 4 undef=.pointer (some ⟨w.heap.size+1,0,none⟩))(h:Fr [w.heap.size] ((w.alloc o1).alloc (.cells #[x0,x1] 26)) W)(hq:Q (.returned (.agg #[y0,y1])) ((W.setCell ⟨w.heap.size+1,0,none⟩ y0).setCell ⟨w.heap.size+1,1,none⟩ y1)):bodyPost prog Tryz.f97 Q .ret { tmps:=tm,defers:=[] } ((W.setCell ⟨w.heap.size+1,0,none⟩ y0).setCell ⟨w.heap.size+1,1,none⟩ y1):=by
 have s8:=KN (y0:=y0) (y1:=y1) o1 h;exact fE (fH (t:=26) (fr:=(0,0)) rfl _ _ (w.heap.size+1) _ _ Zw s8 underlying26 rfl (by kernel_rfl)) rfl hq
theorem Q7 {w W:World}{o1 o3:Obj}{x0 x1 y0 y1:Value}{Q:Ending->World->Prop}{tm:Array Value}(Zw:tm.getD 4 undef=.pointer (some ⟨w.heap.size+1,0,none⟩))(h:Fr [w.heap.size] ((w.alloc o1).alloc (.cells #[x0,x1] 26)) W)(hq:Q (.returned (.agg #[y0,y1])) (((W.setCell ⟨w.heap.size+1,0,none⟩ y0).setCell ⟨w.heap.size+1,1,none⟩ y1).alloc o3)):bodyPost prog Tryz.f97 Q .ret { tmps:=tm,defers:=[] } (((W.setCell ⟨w.heap.size+1,0,none⟩ y0).setCell ⟨w.heap.size+1,1,none⟩ y1).alloc o3):=by
 have s8:=iJ (KN (y0:=y0) (y1:=y1) o1 h) ((Fr.refl [] _).alloc o3) aj;exact fE (fH (t:=26) (fr:=(0,0)) rfl _ _ (w.heap.size+1) _ _ Zw s8 underlying26 rfl (by kernel_rfl)) rfl hq
theorem qo (B P:Nat)(Bd V X:List Int)(r z:Int)(Ls:List Ln)(v0 v1 v2 vL:Value)(hs:List Value)(off:Int)(back:Bool)(w:World)(h:LP w B P Bd V X r Ls v0 v1 v2 vL hs)(hr:jN Bd z)(hz:0<=z)(hl:Bd.length<=1000) :
 Calls prog 97 #[.pointer (some ⟨P,0,none⟩),.agg #[.int .i64 off,.bool back]] w fun e w'=>e=.returned (.agg #[.int .i64 (iR Bd z off back).1,.bool (iR Bd z off back).2])/\Fr [] w w':=by
 obtain⟨k,hk⟩:=kO (min (max off 0) z) Bd hr.sorted;have hl0:=hr.len;obtain⟨gB,cB,hvB,_,wR⟩:=h.b.row hl0;subst hvB;have abQ:=hid (fun(Y:World) (hf:Fr [] w Y)=>Cls.pz Bd z hr off false k gB cB Y hz hk (by omega) (fun j hj=>wR.fr hf aj j hj));rw[<-zC hr hk (by omega)]at abQ;have abR:=hid (fun(Y:World) (hf:Fr [] w Y)=>UB Bd z hr gB cB Bd.length v1 v2 Y rfl hl (wR.fr hf aj));have p0:=iG h.o (i:=0) (v:=.slice (some ⟨gB,0,none⟩) Bd.length cB) rfl;have p1:=iG h.o (i:=1) (v:=v1) rfl;have p2:=iG h.o (i:=2) (v:=v2) rfl;have za:P<w.heap.size:=fC _ _ p0;have L3:=hid (show iR Bd z off back=(best Bd (min (max off 0) z) Bd.length,if best Bd (min (max off 0) z) Bd.length=0 then false else if best Bd (min (max off 0) z) Bd.length=z then true else back)from rfl);rw[L3.out];dsimp only;generalize best Bd (min (max off 0) z) Bd.length=o at *;clear h hr hk wR L3 hl hl0;obtain⟨bk,hbk⟩:∃bk,bk=(if o=0 then false else if o=z then true else back):=⟨_,rfl⟩;rw[<-hbk];have HBK:=hid hbk;clear hbk;go_enter func97,ntmps97;go_wp2_with fail
 go_region_with (first
  | (go_at_call 40;refine(abQ.out _ ?fa).mono ?_;(case fa=>(repeat(first | refine Fr.iK ?_ (by omega) | refine Fr.drewN ?_ _ | refine Fr.drew ?_ | with_reducible exact Fr.refl _ _ | refine Fr.alloc ?_ _)));rintro e w1 ⟨rfl,q,rfl⟩))
 all_goals (
  by_cases ho0:o=0
  ·subst ho0
   have hb:=HBK.out
   rw[aE rfl]at hb
   subst hb
   go_wp2
   refine abP (o1:=.cells #[.int .i64 off,.bool back] 26) (x0:=.int .i64 0) (x1:=.bool false) rfl ?_ ⟨rfl,?_⟩
   ·(repeat(first | refine Fr.set ?_ (ak.2 rfl) _ | refine Fr.drewN ?_ _ | refine Fr.drew ?_ | with_reducible exact Fr.refl _ _ | refine Fr.alloc ?_ _))
   ·(repeat(first | refine Fr.iK ?_ (by omega) | refine Fr.drewN ?_ _ | refine Fr.drew ?_ | with_reducible exact Fr.refl _ _ | refine Fr.alloc ?_ _))
  ·have aju:(o == 0)=false:=by simpa using ho0
   by_cases ho1:o=z
   ·have hb:=HBK.out
    rw[ay ho0,aE ho1]at hb
    subst ho1
    subst hb
    go_wp2_with (first
     | (go_at_call 130;refine(abR.out _ ?fa).mono ?_;(case fa=>(repeat(first | refine Fr.iK ?_ (by omega) | refine Fr.drewN ?_ _ | refine Fr.drew ?_ | with_reducible exact Fr.refl _ _ | refine Fr.alloc ?_ _)));rintro e w1 ⟨rfl,rfl⟩))
    refine Q7 (o1:=.cells #[.int .i64 off,.bool back] 26) (x0:=.int .i64 0) (x1:=.bool false) rfl ?_ ⟨rfl,?_⟩
    ·(repeat(first | refine Fr.set ?_ (ak.2 rfl) _ | refine Fr.drewN ?_ _ | refine Fr.drew ?_ | with_reducible exact Fr.refl _ _ | refine Fr.alloc ?_ _))
    ·(repeat(first | refine Fr.iK ?_ (by omega) | refine Fr.drewN ?_ _ | refine Fr.drew ?_ | with_reducible exact Fr.refl _ _ | refine Fr.alloc ?_ _))
   ·have hb:=HBK.out
    rw[ay ho0,ay ho1]at hb
    subst back
    have ajv:(o == z)=false:=by simpa using ho1
    go_wp2_with (first
     | (go_at_call 130;refine(abR.out _ ?fa).mono ?_;(case fa=>(repeat(first | refine Fr.iK ?_ (by omega) | refine Fr.drewN ?_ _ | refine Fr.drew ?_ | with_reducible exact Fr.refl _ _ | refine Fr.alloc ?_ _)));rintro e w1 ⟨rfl,rfl⟩))
    refine Q7 (o1:=.cells #[.int .i64 off,.bool bk] 26) (x0:=.int .i64 0) (x1:=.bool false) rfl ?_ ⟨rfl,?_⟩
    ·(repeat(first | refine Fr.set ?_ (ak.2 rfl) _ | refine Fr.drewN ?_ _ | refine Fr.drew ?_ | with_reducible exact Fr.refl _ _ | refine Fr.alloc ?_ _))
    ·(repeat(first | refine Fr.iK ?_ (by omega) | refine Fr.drewN ?_ _ | refine Fr.drew ?_ | with_reducible exact Fr.refl _ _ | refine Fr.alloc ?_ _)))
theorem Q8 (B P:Nat)(Bd V X:List Int)(r:Int)(Ls:List Ln)(v0 v1 v2 vL:Value)(hs:List Value)(off:Int)(back:Bool)(i k:Nat)(w:World)(h:LP w B P Bd V X r Ls v0 v1 v2 vL hs)(hi:i<Ls.length)(hk:k<(kF Ls i).x.length)(hK:Ls.length<=400)(hx:(kF Ls i).x.length<=1001)(hg:∀Y,Fr [] w Y->Calls prog 62 #[.pointer (some ⟨P,0,none⟩),.agg #[.int .i64 off,.bool back]] Y fun e w'=>e=.returned (.agg #[.int .i64 (i:Nat),.int .i64 (k:Nat)])/\Fr [] Y w') :
 Calls prog 63 #[.pointer (some ⟨P,0,none⟩),.agg #[.int .i64 off,.bool back]] w fun e w'=>e=.returned (.int .i64 (nth (kF Ls i).x k))/\Fr [] w w':=by
 obtain⟨U,_,hn⟩:=h.n;obtain⟨vO,vX,_,_,_,a4,_,a6,_⟩:=hn i _ (qH hi);obtain⟨gL,cL,DE⟩:=iQ (by omega) h.l;subst DE;obtain⟨gX,cX,Jn⟩:=iQ (by omega) a6;subst Jn;have c3:w.cell? ⟨gL,i * 4+3,none⟩=some (.slice (some ⟨gX,0,none⟩) (kF Ls i).x.length cX):=by rw[h.l.cellAt _ (by omega)];exact a4
 have c4:w.cell? ⟨gX,k,none⟩=some (.int .i64 (nth (kF Ls i).x k)):=by rw[a6.cellAt k (by omega),k_ hk]
 have p3:=iG h.o (i:=3) (v:=.slice (some ⟨gL,0,none⟩) Ls.length cL) rfl;have za:P<w.heap.size:=fC _ _ p3;obtain⟨w2,hw2⟩:∃w2,w2=w.alloc (.cells #[.int .i64 off,.bool back] 26):=⟨_,rfl⟩;have i_:=hid (show Fr [] w w2 by rw[hw2];(repeat(first | refine Fr.iK ?_ (by omega) | refine Fr.drewN ?_ _ | refine Fr.drew ?_ | with_reducible exact Fr.refl _ _ | refine Fr.alloc ?_ _)));have jO:=hid (show w2.heap[w.heap.size]?=some (.cells #[.int .i64 off,.bool back] 26 (0,0)) by rw[hw2];exact iL w _);have Bf:=hid hg;have y_:(i:Int)<(Ls.length:Int):=by omega
 have wX:(k:Int)<((kF Ls i).x.length:Int):=by omega
 generalize nth (kF Ls i).x k=y at *;generalize (kF Ls i).x.length=lx at *;generalize Ls.length=K at *;have HC:=hid (And.intro p3 (And.intro c3 c4));clear h hn a4 a6 hg;go_enter func63,ntmps63;have HW2:=hid hw2;clear hw2;go_wp2_with fail;rw[<-HW2.out];refine(Bf.out _ i_.out).mono ?_;rintro e w4 ⟨rfl,jG⟩;have jI:=hid (i_.out.trans jG);have d1:=jI.out.cell p3 aj;have d2:=jI.out.cell c3 aj;have d3:=jI.out.cell c4 aj;clear jG p3 c3 c4;have e1:=fC _ _ d1;have e2:=fC _ _ d2;have e3:=fC _ _ d3;dsimp only at e1 e2 e3;go_wp2_with fail;go_quiet (fail);go_wp2;go_ret;exact⟨rfl,by repeat(first | exact jI.out | refine Fr.drewN ?_ _ | refine Fr.alloc ?_ _)⟩
structure Holds (Ls:List Ln)(x:Int)(i:Nat):Prop where
 lt:i<Ls.length
 yes:x<(kF Ls i).t
 no:∀j,j<i->¬x<(kF Ls j).t
theorem holds_one (f t x:Int)(vO vX:Value)(b:Nat)(w:World)(hb:w.cell? ⟨b,0,none⟩=some (.int .i64 x)) :
 Calls prog 132 #[.agg #[.int .i64 f,.int .i64 t,vO,vX],.pointer (some ⟨b,0,none⟩)] w fun e w'=>e=.returned (.bool (decide (x<t)))/\Fr [] w w':=by
 have hbl:=fC _ _ hb;dsimp only at hbl;go_enter func132,ntmps132;go_wp2;go_ret;exact⟨rfl,by(repeat(first | refine Fr.iK ?_ (by omega) | refine Fr.drewN ?_ _ | refine Fr.drew ?_ | with_reducible exact Fr.refl _ _ | refine Fr.alloc ?_ _))⟩
theorem JC (Ls:List Ln)(x:Int)(i b B U gL cL K:Nat)(hs:List Value)(w:World)(hi:Holds Ls x i)(hK:K=Ls.length)(hK4:K<=400)(hl:w.ownsRow B 69 4 (.slice (some ⟨gL,0,none⟩) K cL) K hs)(hn:mU w B U hs Ls)(hb:w.cell? ⟨b,0,none⟩=some (.int .i64 x)) :
 Calls prog 131 #[.slice (some ⟨gL,0,none⟩) K cL,.func (.func 132) #[] #[.pointer (some ⟨b,0,none⟩)]] w fun e w'=>e=.returned (.int .i64 (i:Nat))/\Fr [] w w':=by
 have HH:=hid hi
 have HL:=hid (fun j (hj:j<K)=>show ∃f vO vX,w.cell? ⟨gL,j * 4,none⟩=some (.int .i64 f)/\w.cell? ⟨gL,j * 4+1,none⟩=some (.int .i64 (kF Ls j).t)/\w.cell? ⟨gL,j * 4+2,none⟩=some vO/\w.cell? ⟨gL,j * 4+3,none⟩=some vX by
  obtain⟨vO,vX,a1,a2,a3,a4,_⟩:=hn j _ (qH (by omega))
  exact⟨_,vO,vX,by rw[hl.cellAt _ (by omega)];exact a1,by rw[hl.cellAt _ (by omega)];exact a2,by rw[hl.cellAt _ (by omega)];exact a3,by rw[hl.cellAt _ (by omega)];exact a4⟩)
 have HB:=hid hb;have hiK:i<K:=by have:=hi.lt;omega
 clear hi hl hn hb hK;go_enter func131,ntmps131;go_wp2_with fail;go_loopw [8] (fun vk wr=>∃k:Nat,vk=.int .i64 k/\k<=i/\Hid (Fr [] w wr)) (fun vk _=>K - (intOf vk).toNat)
 case atStart=>exact⟨0,rfl,aN _,hid (Fr.refl [] w)⟩
 case round =>
  obtain⟨k,rfl,hk,HF⟩:=hrel;obtain⟨f,vO,vX,a1,a2,a3,a4⟩:=HL.out k (by omega);have c1:=HF.out.cell a1 aj;have c2:=HF.out.cell a2 aj;have c3:=HF.out.cell a3 aj;have c4:=HF.out.cell a4 aj;have HY:=hid (HH.out.yes);have HN:=hid (HH.out.no k);have wX:(k:Int)<(K:Int):=by omega
  have UC:=hid (fun(Y:World) (hf:Fr [] w Y)=>holds_one f (kF Ls k).t x vO vX b Y (hf.cell HB.out aj));by_cases hki:k=i
  ·subst hki
   have hx:decide (x<(kF Ls k).t)=true:=by simpa using HY.out
   rw[hx]at UC;clear hx a1 a2 a3 a4;generalize (kF Ls k).t=t at *;go_wp2_with (first | (go_at_call 132;refine(UC.out _ HF.out).mono ?_;rintro e w4 ⟨rfl,jG⟩;have jI:=hid (HF.out.trans jG);clear jG));go_ret;exact⟨rfl,jI.out⟩
  ·have hx:decide (x<(kF Ls k).t)=false:=by simpa using HN.out (by omega)
   rw[hx]at UC;clear hx a1 a2 a3 a4;generalize (kF Ls k).t=t at *;go_wp2_with (first | (go_at_call 132;refine(UC.out _ HF.out).mono ?_;rintro e w4 ⟨rfl,jG⟩;have jI:=hid (HF.out.trans jG);clear jG));go_roundw
   case rel=>exact⟨k+1,by go_num,by omega,jI⟩
   case measure=>simp[intOf];omega
theorem MQ (Ls:List Ln)(x:Int)(i B U gL cL K:Nat)(hs:List Value)(w:World)(hi:Holds Ls x i)(hK:K=Ls.length)(hK4:K<=400)(hl:w.ownsRow B 69 4 (.slice (some ⟨gL,0,none⟩) K cL) K hs)(hn:mU w B U hs Ls) :
 Calls prog 101 #[.slice (some ⟨gL,0,none⟩) K cL,.int .i64 x] w fun e w'=>e=.returned (.int .i64 (i:Nat))/\Fr [] w w':=by
 have i_:=hid (show Fr [] w (w.alloc (.cells #[.int .i64 x] 3)) by(repeat(first | refine Fr.iK ?_ (by omega) | refine Fr.drewN ?_ _ | refine Fr.drew ?_ | with_reducible exact Fr.refl _ _ | refine Fr.alloc ?_ _)));have afs:=hid (JC Ls x i w.heap.size B U gL cL K hs (w.alloc (.cells #[.int .i64 x] 3)) hi hK hK4 (iM hl i_.out) (hn.fr (fun _ _ _ _ _ _ h=>iM h i_.out)) (iG (iL w (.cells #[.int .i64 x] 3)) (i:=0) rfl));clear hi hK hl hn;go_enter func101,ntmps101;go_wp2_with (first | (go_at_call 131;refine afs.out.mono ?_;rintro e w4 ⟨rfl,jG⟩;have jI:=hid (i_.out.trans jG);clear jG));go_ret;exact⟨rfl,jI.out⟩
structure ug (O:List Nat)(c k:Nat):Prop where
 lt:k<O.length
 yes:iP O k=c
 no:∀j,j<k->iP O j≠c
theorem CW (O:List Nat)(j:Nat):(O.map fun x:Nat=>(x:Int)).getD j 0=(iP O j:Nat):=by
 simp only[List.getD,cA,iP];cases O[j]? <;> simp
theorem MR (O:List Nat)(c k go n cap:Nat)(w:World)(hn:n=O.length)(hk:ug O c k)(hb:n<=1000)(hO:EO w go n O) :
 Calls prog 102 #[.slice (some ⟨go,0,none⟩) n cap,.int .i64 (c:Nat)] w fun e w'=>e=.returned (.int .i64 (k:Nat))/\w'=w:=by
 subst hn
 have h:=Tryz.slices_Index_int go 0 O.length cap (O.map fun x:Nat=>(x:Int)) (c:Nat) w (by simp) (by omega) (fun j hj=>by
  rw[CW,dL];exact hO j (by simpa using hj))
 have e:Lib.idxOf ((O.map fun x:Nat=>(x:Int)).take O.length) (c:Nat)=(k:Nat):=by
  rw[List.take_of_length_le (by simp)]
  have:=Lib.idxFrom_hit (c:Nat) (O.map fun x:Nat=>(x:Int)) k 0 (by simpa using hk.lt) (by rw[CW,hk.yes]) (fun j hj=>by
   rw[CW];intro h;exact hk.no j hj (by omega))
  simpa[Lib.idxOf] using this
 rw[e]at h;exact h
theorem rU {l:List Int}{z:Int}(h:jN l z){i j:Nat}(hij:i<j)(hj:j<l.length):nth l i<nth l j:=by
 have:=bE.1 h.sorted i j (by omega) hj hij;rw[nth,nth,aA (show i<l.length by omega),aA hj];exact this
theorem nL {l:List Int}{z:Int}(h:jN l z){i j:Nat}(hi:i<l.length)(hj:j<l.length)(e:nth l i=nth l j):i=j:=by
 rcases b8 i j with h1 | h1 | h1
 ·have:=rU h h1 hj;omega
 ·exact h1
 ·have:=rU h h1 hi;omega
theorem kY {l:List Int}{z:Int}(h:jN l z):nth l 0=0:=by rw[nth,h.head];rfl
theorem mM {l:List Int}{z:Int}(h:jN l z):nth l (l.length - 1)=z:=by rw[nth,h.last];rfl
theorem rW {l:List Int}{z:Int}(h:jN l z)(x:Int):∀k,k<=l.length->∃j,j<l.length/\nth l j=best l x k
 | 0,_=>⟨0,h.len,kY h⟩
 | k+1,hk=>by
   rw[best];split
   ·exact⟨k,hk,rO l k⟩
   ·exact rW h x k (by omega)
theorem Bg {l:List Int}{z:Int}(h:jN l z){j:Nat}(hj:j<l.length):cidx l (nth l j)=j:=by
 have hm:l.contains (nth l j)=true:=by
  rw[dU,nth,aA hj];exact bB _
 obtain⟨h1,h2⟩:=A_ h hm;rw[<-rO]at h2;exact nL h h1 hj h2
theorem JD {Bd:List Int}{z:Int}(h:jN Bd z)(h1:1<Bd.length)(off:Int)(back:Bool) :
 ∃c,c+1<Bd.length/\cidx Bd (iR Bd z off back).1=(if(iR Bd z off back).2=true then c+1 else c)/\nth Bd (if(iR Bd z off back).2=true then c+1 else c)=(iR Bd z off back).1:=by
 obtain⟨j,hj,e⟩:=rW h (min (max off 0) z) Bd.length (au _);have hp:iR Bd z off back=(nth Bd j,if nth Bd j=0 then false else if nth Bd j=z then true else back):=by rw[e];rfl
 have hci:=Bg h hj;rw[hp];dsimp only;rw[hci];by_cases h0:nth Bd j=0
 ·obtain rfl:j=0:=nL h hj (by omega) (by rw[h0,kY h])
  rw[aE h0];exact⟨0,h1,rfl,rfl⟩
 ·rw[ay h0]
  have hj0:j≠0:=fun hz=>h0 (by rw[hz];exact kY h)
  by_cases h2:nth Bd j=z
  ·rw[aE h2]
   exact⟨j - 1,by omega,by simp;omega,by simp;rw[show j - 1+1=j by omega]⟩
  ·rw[ay h2]
   have hjl:j≠Bd.length - 1:=fun hz=>h2 (by rw[hz];exact mM h)
   cases back
   ·exact⟨j,by omega,rfl,rfl⟩
   ·exact⟨j - 1,by omega,by simp;omega,by simp;rw[show j - 1+1=j by omega]⟩
structure vA (Bd V:List Int)(z:Int)(Ls:List Ln):Prop where
 rs:jN Bd z
 bd:Bd.length=V.length+1
 on:∀i,i<Ls.length->∀c∈(kF Ls i).o,c<V.length/\Holds Ls (nth Bd c) i
 has:∀c,c<V.length->∃i,i<Ls.length/\c∈(kF Ls i).o
 nd:∀i,i<Ls.length->(kF Ls i).o.Nodup
 ne:0<V.length->∀i,i<Ls.length->0<(kF Ls i).o.length
theorem wT {O:List Nat}{j:Nat}(h:j<O.length):iP O j=O[j]:=by rw[iP,aA h];rfl
theorem MS {O:List Nat}{c:Nat}(h:c∈O):∃k,ug O c k:=by
 refine⟨O.idxOf c,List.idxOf_lt_length_iff.2 h,?_,fun j hj e=>?_⟩
 ·rw[wT (List.idxOf_lt_length_iff.2 h)];exact List.getElem_idxOf _
 ·have hl:j<O.length:=fA hj (List.idxOf_lt_length_iff.2 h)
  rw[wT hl]at e;have:=List.not_of_lt_findIdx (p:=(· == c)) (xs:=O) hj;simp[e]at this
theorem vA.gap {Bd V:List Int}{z:Int}{Ls:List Ln}(F:vA Bd V z Ls)(h0:0<V.length)(off:Int)(back:Bool) :
 ∃c i k,c<V.length/\cidx Bd (iR Bd z off back).1=(if(iR Bd z off back).2=true then c+1 else c)/\nth Bd (if(iR Bd z off back).2=true then c+1 else c)=(iR Bd z off back).1/\Holds Ls (nth Bd c) i/\ug (kF Ls i).o c k:=by
 have hb:=F.bd;obtain⟨c,hc,e1,e2⟩:=JD F.rs (by omega) off back;obtain⟨i,hi,hm⟩:=F.has c (by omega);obtain⟨k,hk⟩:=MS hm;exact⟨c,i,k,by omega,e1,e2,(F.on i hi c hm).2,hk⟩
def oJ (Bd V:List Int)(z:Int)(Ls:List Ln)(off:Int)(back:Bool):Nat × Nat :=
 if V.length=0 then(0,0)else
 let p:=iR Bd z off back
 let c:=if p.2=true then cidx Bd p.1 - 1 else cidx Bd p.1
 let i:=Ls.findIdx (fun l=>decide (nth Bd c<l.t))
 let k:=(kF Ls i).o.idxOf c
 (i,if p.2=(nth V c % 2 == 1)then k else k+1)
theorem MT {Ls:List Ln}{x:Int}{i:Nat}(h:Holds Ls x i):Ls.findIdx (fun l=>decide (x<l.t))=i:=by
 have hl:∀j (hj:j<Ls.length),kF Ls j=Ls[j]:=fun j hj=>by rw[kF,aA hj];rfl
 refine(List.findIdx_eq h.lt).2 ⟨?_,fun j hj=>?_⟩
 ·have:=h.yes
  rw[hl i h.lt]at this;exact bQ this
 ·have:=h.no j hj
  rw[hl j (fA hj h.lt)]at this;exact bS this
theorem JE {O:List Nat}{c k:Nat}(h:ug O c k):O.idxOf c=k:=by
 refine(List.findIdx_eq h.lt).2 ⟨?_,fun j hj=>?_⟩
 ·have:=h.yes
  rw[wT h.lt]at this;simp[this]
 ·have:=h.no j hj
  rw[wT (fA hj h.lt)]at this;simpa using this
theorem Fe {Bd V:List Int}{z:Int}{Ls:List Ln}{off:Int}{back:Bool}{c i k:Nat}(h0:0<V.length)(hc:cidx Bd (iR Bd z off back).1=(if(iR Bd z off back).2=true then c+1 else c))(hi:Holds Ls (nth Bd c) i)(hk:ug (kF Ls i).o c k) :
 oJ Bd V z Ls off back=(i,if(iR Bd z off back).2=(nth V c % 2 == 1)then k else k+1):=by
 have hcc:(if(iR Bd z off back).2=true then cidx Bd (iR Bd z off back).1 - 1 else cidx Bd (iR Bd z off back).1)=c:=by
  rw[hc];by_cases hb:(iR Bd z off back).2=true
  ·rw[aE hb,aE hb];omega
  ·rw[ay hb,ay hb]
 unfold oJ;rw[ay (by omega)];dsimp only;rw[hcc,MT hi,JE hk]
theorem CX {s:ByteArray}{n:Nat}{bs:Int}{W Br:List Int}{k j:Nat}(hj:j<k):kF (Ic s n bs W Br k) j=EZ (Dec.pos s) (iP (jd s n)) (AO s n bs Br) W (kV s n Br j) (kV s n Br (j+1)):=by
 rw[kF,Ic,cA,List.getElem?_range hj];rfl
theorem CY {P ri:Nat->Nat}{Ev:Nat->Int}{W:List Int}{a b c:Nat}:c∈(EZ P ri Ev W a b).o ↔ a<=c/\c<b:=by
 show c∈(nY _ (b - a)).map _ ↔ _;rw[dX];constructor
 ·rintro ⟨t,ht,rfl⟩
  have:=A5 _ _ t ht;omega
 ·intro h
  exact⟨c - a,(uP _ _).mem_iff.2 (cE.2 (by omega)),by omega⟩
theorem JF {P ri:Nat->Nat}{Ev:Nat->Int}{W:List Int}{a b:Nat}:(EZ P ri Ev W a b).o.Nodup:=by
 show((nY _ (b - a)).map _).Nodup;have h1:(nY (fun t=>Ev (ri (a+t))) (b - a)).Nodup:=(uP _ _).nodup_iff.2 List.nodup_range;unfold List.Nodup at *;rw[List.pairwise_map];exact h1.imp (fun hne he=>hne (by omega))
theorem Q9 {s:ByteArray}{n:Nat}(hend:Dec.Ends s n)(hn:0<n){bs:Int}{W Br:List Int}(E:rP s n Br):vA (bnd s n) (Ie s n bs Br) (s.size:Nat) (Ic s n bs W Br (Br.length+1)):=by
 have hr:=jW hend;have hvl:(Ie s n bs Br).length=cn s n:=by rw[Ie,uV,<-oU hn]
 have hbl:(bnd s n).length=cn s n+1:=by have:=(jA s n).2.1;rw[lJ hend];unfold cn;omega
 have hle:∀j,j<=Br.length+1->kV s n Br j<=cn s n:=E.le;have ht:∀j,j<Br.length+1->(kF (Ic s n bs W Br (Br.length+1)) j).t=nth (bnd s n) (kV s n Br (j+1)):=fun j hj=>by
  have:=hle (j+1) (by omega);rw[CX hj,nk hend (by rw[<-lJ hend,hbl];omega)];rfl
 have hmo:∀i j,i<j->j<=Br.length+1->kV s n Br i<kV s n Br j:=E.mono;refine⟨hr,by omega,fun i hi c hc=>?_,fun c hc=>?_,fun i hi=>?_,fun _ i hi=>?_⟩
 ·rw[qG]at hi
  rw[CX hi,CY]at hc;have h1:=hle (i+1) (by omega);refine⟨by omega,by rw[qG];exact hi,by rw[ht i hi];exact rU hr hc.2 (by omega),fun j hj=>?_⟩;rw[ht j (by omega)];have h2:kV s n Br (j+1)<=kV s n Br i:=by
   rcases aH (show j+1<=i from hj)with h | h
   ·exact b7 (hmo _ _ h (by omega))
   ·rw[h];exact au _
  rcases aH (aK h2 hc.1)with h3 | h3
  ·have:=rU hr h3 (by omega);omega
  ·rw[h3];omega
 ·rw[hvl]at hc
  have key:∀k,k<=Br.length+1->c<kV s n Br k->∃i,i<Br.length+1/\kV s n Br i<=c/\c<kV s n Br (i+1):=by
   intro k
   induction k with
   | zero=>intro _ h;rw[show kV s n Br 0=0 from E.e0]at h;omega
   | succ k ih =>
     intro hk h
     rcases cH c (kV s n Br k)with h1 | h1
     ·exact ih (by omega) h1
     ·exact⟨k,by omega,h1,h⟩
  obtain⟨i,hi,h1,h2⟩:=key (Br.length+1) (au _) (by rw[show kV s n Br (Br.length+1)=cn s n from E.eN];exact hc);exact⟨i,by rw[qG];exact hi,by rw[CX hi,CY];exact⟨h1,h2⟩⟩
 ·rw[qG]at hi
  rw[CX hi];exact JF
 ·rw[qG]at hi
  rw[CX hi];exact List.length_pos_of_mem (CY.2 ⟨au _,hmo i (i+1) (by omega) (by omega)⟩)
theorem Q_:vA [0] [] 0 [QX]:=by
 refine⟨⟨by simp,rfl,rfl⟩,rfl,fun i hi c hc=>?_,fun c hc=>absurd hc (cu _),fun i hi=>?_,fun h=>absurd h (eG 0)⟩
 ·obtain rfl:i=0:=by simpa using hi
  exact absurd hc aj
 ·obtain rfl:i=0:=by simpa using hi
  exact List.nodup_nil
theorem Ra (B P:Nat)(Bd V X:List Int)(r z:Int)(Ls:List Ln)(v0 v1 v2 vL:Value)(hs:List Value)(off o:Int)(back bk:Bool)(c i k:Nat)(w:World)(h:LP w B P Bd V X r Ls v0 v1 v2 vL hs)(hr:jN Bd z)(hz:0<=z)(T:DG Bd V Ls)(hbd:Bd.length=V.length+1)(hv4:V.length<=400)(hK:Ls.length<=400)(hlo:∀l∈Ls,l.o.length<=1000)(hp:iR Bd z off back=(o,bk))(hc:c<V.length)(hcc:cidx Bd o=if bk=true then c+1 else c)(hi:Holds Ls (nth Bd c) i)(hk:ug (kF Ls i).o c k) :
 Calls prog 62 #[.pointer (some ⟨P,0,none⟩),.agg #[.int .i64 off,.bool back]] w fun e w'=>e=.returned (.agg #[.int .i64 (i:Nat),.int .i64 ((if bk=(nth V c % 2 == 1)then k else k+1:Nat):Int)])/\Fr [] w w':=by
 obtain⟨gB,cB,hvB,_,wR⟩:=h.b.row (by omega);obtain⟨gV,cV,hvV,_,Yu⟩:=h.v.row (by omega);have hil:=hi.lt;have hmem:=ny hil;obtain⟨U,hU,hn⟩:=h.n;obtain⟨gL,cL,DE⟩:=iQ (by omega) h.l;obtain⟨vO,vX,_,_,a3,_,a5,_,_⟩:=hn i _ (qH hil);have hkl:=hk.lt;obtain⟨gO,cO,MU⟩:=iQ (by omega) a5;subst hvB hvV DE MU;have P4:=hid (nF a5 rfl);have H57:=hid (fun(Y:World) (hf:Fr [] w Y)=>qo B P Bd V X r z Ls _ _ v2 _ hs off back Y (h.fr hf (fun k hk=>absurd hk aj)) hr hz (by omega));rw[hp]at H57;have YB:=hid (fun(Y:World) (hf:Fr [] w Y)=>wO Bd z hr o gB cB Bd.length (.slice (some ⟨gV,0,none⟩) V.length cV) v2 Y rfl (by omega) (wR.fr hf aj));have afu:=hid (fun(Y:World) (hf:Fr [] w Y)=>MQ Ls (nth Bd c) i B U gL cL Ls.length hs Y hi rfl hK (iM h.l hf) (hn.fr (fun _ _ _ _ _ _ h=>iM h hf)));have afv:=hid (fun(Y:World) (hf:Fr [] w Y)=>MR (kF Ls i).o c k gO (kF Ls i).o.length cO Y rfl hk (hlo _ hmem) (P4.out.fr hf aj));have Rb:=hid (fun(Y:World) (hf:Fr [] w Y)=>Cy V gV V.length cV c (.slice (some ⟨gB,0,none⟩) Bd.length cB) v2 Y hc (Yu.fr hf aj) (T.vb c).1);have p0:=iG h.o (i:=0) (v:=.slice (some ⟨gB,0,none⟩) Bd.length cB) rfl;have p1:=iG h.o (i:=1) (v:=.slice (some ⟨gV,0,none⟩) V.length cV) rfl;have p2:=iG h.o (i:=2) (v:=v2) rfl;have p3:=iG h.o (i:=3) (v:=.slice (some ⟨gL,0,none⟩) Ls.length cL) rfl;have c2:w.cell? ⟨gL,i * 4+2,none⟩=some (.slice (some ⟨gO,0,none⟩) (kF Ls i).o.length cO):=by rw[h.l.cellAt _ (by omega)];exact a3
 have cb:=wR c (by omega);have za:P<w.heap.size:=fC _ _ p3;have e1:=fC _ _ c2;have e2:=fC _ _ cb;dsimp only at e1 e2;rw[hcc]at YB;obtain⟨m,hm⟩:∃m:Nat,m=if bk=true then c+1 else c:=⟨_,rfl⟩
 rw[<-hm]at YB;have HM:=hid hm;obtain⟨lf,hlf⟩:∃lf,lf=(nth V c % 2 == 1):=⟨_,rfl⟩;rw[<-hlf]at Rb ⊢;obtain⟨gp,I3⟩:∃gp:Nat,gp=(if bk=lf then k else k+1:Nat):=⟨_,rfl⟩;rw[<-I3];have Tw:=hid I3;have Aa:0<V.length:=by omega
 have hcI:(c:Int)<(Bd.length:Int):=by omega
 have y_:(i:Int)<(Ls.length:Int):=by omega
 have hkb:k<=1000:=by have:=hlo _ hmem;omega
 generalize nth Bd c=y at *;generalize (kF Ls i).o.length=lo at *;generalize Ls.length=K at *;generalize Bd.length=nB at *;generalize V.length=nV at *;have ajw:(((nV:Nat):Int) == 0)=false:=by simp;omega
 have hmb:m<=1000:=by rw[hm];split <;> omega
 clear h hr T hp hcc hi hk hn a3 a5 hlo wR Yu P4 hlf I3 hmem hm hbd;obtain⟨w2,hw2⟩:∃w2,w2=(w.alloc (.cells #[.int .i64 off,.bool back] 26)).alloc (.cells #[.int .i64 0,.int .i64 0] 28):=⟨_,rfl⟩;have i_:=hid (show Fr [] w w2 by rw[hw2];exact((Fr.refl _ _).alloc _).alloc _);have jO:=hid (show w2.heap[w.heap.size]?=some (.cells #[.int .i64 off,.bool back] 26 (0,0)) by rw[hw2];exact iJ (iL w _) ((Fr.refl [] _).alloc _) aj)
 have HR2:=hid (show w2.heap[w.heap.size+1]?=some (.cells #[.int .i64 0,.int .i64 0] 28 (0,0)) by
  have hs:(w.alloc (.cells #[.int .i64 off,.bool back] 26)).heap.size=w.heap.size+1:=by simp
  have h0:=iL (w.alloc (.cells #[.int .i64 off,.bool back] 26)) (.cells #[.int .i64 0,.int .i64 0] 28)
  rw[hs]at h0
  rw[hw2];exact h0)
 go_enter func62,ntmps62;have HW2:=hid hw2;clear hw2;go_wp2_with fail;rw[<-HW2.out];refine(H57.out _ i_.out).mono ?_;rintro e w3 ⟨rfl,hf3⟩;have lD:=hid (iJ jO.out hf3 aj);have HR3:=hid (iJ HR2.out hf3 aj);have jQ:=hid (i_.out.trans hf3);have z0:=iG lD.out (i:=0) (v:=.int .i64 off) rfl;have z1:=iG lD.out (i:=1) (v:=.bool back) rfl;have f0:=iH lD.out 0;have f1:=iH lD.out 1;have P0:=hid p0;have P1:=hid p1;have P2:=hid p2;have P3:=hid p3;have C2:=hid c2;have CB:=hid cb;clear hf3 p0 p1 p2 p3 c2 cb;have q0:=jQ.out.cell P0.out aj;have q1:=jQ.out.cell P1.out aj;have q2:=jQ.out.cell P2.out aj;have hnP:P≠w.heap.size:=by omega
 go_wp2_with fail;obtain⟨w4,hw4⟩:∃w4,w4=(w3.setCell ⟨w.heap.size,0,none⟩ (.int .i64 o)).setCell ⟨w.heap.size,1,none⟩ (.bool bk):=⟨_,rfl⟩;have oI:=hid (show w4.heap[w.heap.size]?=some (.cells #[.int .i64 o,.bool bk] 26 (0,0)) by rw[hw4];exact iI (iI lD.out 0 _) 1 _);have HR4:=hid (show w4.heap[w.heap.size+1]?=some (.cells #[.int .i64 0,.int .i64 0] 28 (0,0)) by rw[hw4];exact iJ HR3.out (show Fr [w.heap.size] w3 _ by(repeat(first | refine Fr.set ?_ (ak.2 rfl) _ | refine Fr.drewN ?_ _ | refine Fr.drew ?_ | with_reducible exact Fr.refl _ _ | refine Fr.alloc ?_ _))) (by simp));have jI:=hid (show Fr [] w w4 by rw[hw4];exact Fr.iK (Fr.iK jQ.out (by omega)) (by omega));rw[<-hw4];clear hw4 z0 z1 f0 f1 q0 q1 q2;have q0:=jI.out.cell P0.out aj;have q1:=jI.out.cell P1.out aj;have q2:=jI.out.cell P2.out aj;have s3:=iG oI.out (i:=0) (v:=.int .i64 o) rfl;go_cut [5]from 8 to 99 (fun v wx=>v=.int .i64 (m:Nat)/\Hid (Fr [] w4 wx))
 case first =>
  go_region_with (first
   | (go_at_call 100;refine(YB.out _ ?fa).mono ?_;(case fa=>exact⟨jI.out.os,jI.out.tape,jI.out.output,jI.out.size,jI.out.block⟩);rintro e w5 ⟨rfl,kK⟩;have kD:=hid (show Fr [] w4 w5 from⟨kK.os,kK.tape,kK.output,kK.size,kK.block⟩);clear kK))
  all_goals (
   go_wp2
   go_meet
   exact⟨rfl,kD⟩)
 case rest =>
  obtain⟨rfl,kD⟩:=hcut;obtain⟨w5,nK⟩:∃w5,w5=wc:=⟨_,rfl⟩;rw[<-nK]at kD ⊢;have rK:=hid (iJ oI.out kD.out aj);have je:=hid (iJ HR4.out kD.out aj);have pF:=hid (jI.out.trans kD.out);clear q0 q1 q2 s3 nK;have t1:=iG rK.out (i:=1) (v:=.bool bk) rfl;have q0:=pF.out.cell P0.out aj;have q3:=pF.out.cell P3.out aj;have qb:=pF.out.cell CB.out aj;have abS:=hid (fun(Y:World) (hf:Fr [] w5 Y)=>afu.out Y (pF.out.trans hf));have hwm:bk=true->IntKind.i64.wrap ((m:Int) - 1)=(c:Int):=by have h:=HM.out;intro hb;rw[aE hb]at h;rw[fM];omega
  have hwf:bk=false->m=c:=by have h:=HM.out;intro hb;rw[hb]at h;simpa using h
  have HWM:=hid hwm;have HWF:=hid hwf;clear hwm hwf;go_upto_if 27 with fail
  go_cut [5]from 8 to 99 (fun v wx=>v=.int .i64 (c:Nat)/\wx=w5)
  case first =>
   cases bk
   ·obtain rfl:=HWF.out rfl
    go_wp2;go_meet;exact⟨rfl,rfl⟩
   ·have hwm:=HWM.out rfl
    go_wp2;go_meet;exact⟨rfl,rfl⟩
  case rest =>
   obtain⟨rfl,hwc⟩:=hcut;obtain rfl:=hwc;clear t1;go_wp2_with fail;go_cut [6]from 8 to 99 (fun v wx=>v=.int .i64 (i:Nat)/\Hid (Fr [] wc wx))
   case first =>
    go_region_with (first
     | (go_at_call 101;refine(abS.out _ ?fb).mono ?_;(case fb=>exact⟨rfl,rfl,rfl,au _,fun _ _ _=>rfl⟩);rintro e w6 ⟨rfl,jJ⟩;have lu:=hid (show Fr [] wc w6 from⟨jJ.os,jJ.tape,jJ.output,jJ.size,jJ.block⟩);clear jJ))
    all_goals (
     go_wp2
     go_meet
     exact⟨rfl,lu⟩)
   case rest =>
    obtain⟨rfl,lu⟩:=hcut;obtain⟨w6,KJ⟩:∃w6,w6=wc:=⟨_,rfl⟩;rw[<-KJ]at lu ⊢;have Jo:=hid (iJ rK.out lu.out aj);have ql:=hid (iJ je.out lu.out aj);have zl:=hid (pF.out.trans lu.out);clear q0 q3 qb KJ;have t1:=iG Jo.out (i:=1) (v:=.bool bk) rfl;have q0:=zl.out.cell P0.out aj;have q1:=zl.out.cell P1.out aj;have q2:=zl.out.cell P2.out aj;have q3:=zl.out.cell P3.out aj;have qc:=zl.out.cell C2.out aj;have abT:=hid (afv.out w6 zl.out);have abU:=hid (fun(Y:World) (hf:Fr [] w6 Y)=>Rb.out Y (zl.out.trans hf));go_wp2_with (first | (go_at_call 102;refine abT.out.mono ?_;rintro e wz ⟨rfl,hwz⟩;obtain rfl:w6=wz:=hwz.symm));go_cut [61]from 8 to 99 (fun v wx=>v=.bool (bk != lf)/\Hid (Fr [] w6 wx))
    case first =>
     go_region_with (first
      | (go_at_call 103;refine(abU.out _ ?fc).mono ?_;(case fc=>exact⟨rfl,rfl,rfl,au _,fun _ _ _=>rfl⟩);rintro e w7 ⟨rfl,I_⟩;have tA:=hid (show Fr [] w6 w7 from⟨I_.os,I_.tape,I_.output,I_.size,I_.block⟩);have t2:=iG (iJ Jo.out tA.out aj) (i:=1) (v:=.bool bk) rfl;clear I_))
     all_goals (
      go_wp2
      go_meet
      exact⟨rfl,tA⟩)
    case rest =>
     obtain⟨rfl,tA⟩:=hcut;obtain⟨w7,hw7⟩:∃w7,w7=wc:=⟨_,rfl⟩;rw[<-hw7]at tA ⊢;have wZ:=hid (iJ ql.out tA.out aj);have TK:=hid (zl.out.trans tA.out);clear q0 q1 q2 q3 qc t1 hw7;have r0:=iG wZ.out (i:=0) (v:=.int .i64 0) rfl;have r1:=iG wZ.out (i:=1) (v:=.int .i64 0) rfl;have g0:=iH wZ.out 0;have g1:=iH wZ.out 1;by_cases hbl:bk=lf
     ·subst hbl
      have I3:=Tw.out;rw[aE rfl]at I3;subst I3;have hb0:(bk != bk)=false:=by simp
      rw[hb0];clear hb0;go_wp2;refine fE (fH (t:=28) (fr:=(0,0)) rfl _ _ (w.heap.size+1) _ _ rfl (iI (iI wZ.out 0 _) 1 _) underlying28 rfl (by kernel_rfl)) rfl ?_;exact⟨rfl,Fr.iK (Fr.iK TK.out (by omega)) (by omega)⟩
     ·have I3:=Tw.out
      rw[ay hbl]at I3;have hb0:(bk != lf)=true:=by simpa using hbl
      rw[hb0];clear hb0;have hwk:IntKind.i64.wrap ((k:Int)+1)=((gp:Nat):Int):=by rw[fM];omega
      clear I3;go_wp2;refine fE (fH (t:=28) (fr:=(0,0)) rfl _ _ (w.heap.size+1) _ _ rfl (iI (iI wZ.out 0 _) 1 _) underlying28 rfl (by kernel_rfl)) rfl ?_;exact⟨rfl,Fr.iK (Fr.iK TK.out (by omega)) (by omega)⟩
theorem Rc (B P:Nat)(Bd V X:List Int)(r:Int)(Ls:List Ln)(v0 v1 v2 vL:Value)(hs:List Value)(off:Int)(back:Bool)(w:World)(h:LP w B P Bd V X r Ls v0 v1 v2 vL hs)(hV:V.length=0) :
 Calls prog 62 #[.pointer (some ⟨P,0,none⟩),.agg #[.int .i64 off,.bool back]] w fun e w'=>e=.returned (.agg #[.int .i64 0,.int .i64 0])/\Fr [] w w':=by
 obtain⟨a,c,hv,_⟩:=h.v;rw[hV]at hv;subst hv;have p1:=iG h.o (i:=1) (v:=.slice a 0 c) rfl;have za:P<w.heap.size:=fC _ _ p1;obtain⟨w2,hw2⟩:∃w2,w2=(w.alloc (.cells #[.int .i64 off,.bool back] 26)).alloc (.cells #[.int .i64 0,.int .i64 0] 28):=⟨_,rfl⟩;have i_:=hid (show Fr [] w w2 by rw[hw2];exact((Fr.refl _ _).alloc _).alloc _)
 have HR2:=hid (show w2.heap[w.heap.size+1]?=some (.cells #[.int .i64 0,.int .i64 0] 28 (0,0)) by
  have hs:(w.alloc (.cells #[.int .i64 off,.bool back] 26)).heap.size=w.heap.size+1:=by simp
  have h0:=iL (w.alloc (.cells #[.int .i64 off,.bool back] 26)) (.cells #[.int .i64 0,.int .i64 0] 28)
  rw[hs]at h0
  rw[hw2];exact h0)
 have HW2:=hid hw2;clear h hV hw2;go_enter func62,ntmps62;go_wp2;rw[<-HW2.out];refine fE (fH (t:=28) (fr:=(0,0)) rfl _ _ (w.heap.size+1) _ _ rfl HR2.out underlying28 rfl (by kernel_rfl)) rfl ?_;exact⟨rfl,i_.out⟩
theorem uh (B P:Nat)(Bd V X:List Int)(r z:Int)(Ls:List Ln)(v0 v1 v2 vL:Value)(hs:List Value)(off:Int)(back:Bool)(w:World)(h:LP w B P Bd V X r Ls v0 v1 v2 vL hs)(F:vA Bd V z Ls)(hz:0<=z)(T:DG Bd V Ls)(hv4:V.length<=400)(hK:Ls.length<=400)(hlo:∀l∈Ls,l.o.length<=1000) :
 Calls prog 62 #[.pointer (some ⟨P,0,none⟩),.agg #[.int .i64 off,.bool back]] w fun e w'=>e=.returned (.agg #[.int .i64 ((oJ Bd V z Ls off back).1:Nat),.int .i64 ((oJ Bd V z Ls off back).2:Nat)])/\Fr [] w w':=by
 by_cases hV:V.length=0
 ·rw[show oJ Bd V z Ls off back=(0,0) by unfold oJ;rw[aE hV]]
  exact Rc B P Bd V X r Ls v0 v1 v2 vL hs off back w h hV
 ·obtain⟨c,i,k,hc,e1,e2,hi,hk⟩:=F.gap (by omega) off back
  rw[Fe (by omega) e1 hi hk];exact Ra B P Bd V X r z Ls v0 v1 v2 vL hs off _ back _ c i k w h F.rs hz T F.bd hv4 hK hlo rfl hc e1 hi hk
end Go.Proofs.YtnakejhohdbfdacGreatDoor
namespace Go.Proofs.YtnakejhohdbfdacGreatDoor
open Go.RowKit j9 Lay Go.Proofs.Tryz
theorem yh (p:Nat->Bool)(o:List Nat)(k:Nat):iN p o (k+1)=if k<o.length/\p (iP o k)=true then iN p o k else(if(iN p o k).2<k then(iN p o k).1++[((iN p o k).2,k)]else(iN p o k).1,k+1):=rfl
structure Wo (f:Nat->Bool)(o:List Nat)(g:Nat)(L:List (Nat × Nat))(fr:Nat):Prop where
 le:fr<=g
 run:∀k,fr<=k->k<g->k<o.length/\f (iP o k)=true
 inn:∀p∈L,p.1<p.2/\p.2<fr
 adj:L.Pairwise (fun p q=>p.2<q.1)
 has:∀k,k<fr->k<o.length->((∃p∈L,p.1<=k/\k<p.2) ↔ f (iP o k)=true)
theorem Re (f:Nat->Bool)(o:List Nat):∀g,Wo f o g (iN f o g).1 (iN f o g).2
 | 0=>by
   refine⟨au _,fun k _ h=>absurd h (cu _),fun p hp=>absurd hp aj,List.Pairwise.nil,fun k h=>absurd h (cu _)⟩
 | g+1=>by
   have ih:=Re f o g;rw[yh];split
   ·rename_i h
    refine⟨Nat.le_succ_of_le ih.le,fun k h1 h2=>?_,ih.inn,ih.adj,ih.has⟩
    rcases aH (aP h2)with h3 | rfl
    ·exact ih.run k h1 h3
    ·exact h
   ·rename_i h
    generalize (iN f o g).1=L at *;generalize (iN f o g).2=fr at *;have hg:g<o.length->¬f (iP o g)=true:=fun h1 h2=>h ⟨h1,h2⟩
    split
    ·rename_i hlt
     refine⟨au _,fun k h1 h2=>by omega,fun p hp=>?_,?_,fun k hk hkl=>?_⟩
     ·rcases a_.1 hp with hp | hp
      ·have:=ih.inn p hp;have:=ih.le;dsimp only;omega
      ·rw[ak.1 hp];dsimp only;omega
     ·rw[dI]
      refine⟨ih.adj,List.pairwise_singleton _ _,fun p hp q hq=>?_⟩;rw[ak.1 hq];exact(ih.inn p hp).2
     ·dsimp only at hk
      by_cases h1:k<fr
      ·rw[<-ih.has k h1 hkl]
       constructor
       ·rintro ⟨p,hp,h2,h3⟩
        rcases a_.1 hp with hp | hp
        ·exact⟨p,hp,h2,h3⟩
        ·rw[ak.1 hp]at h2;dsimp only at h2;omega
       ·rintro ⟨p,hp,h2,h3⟩
        exact⟨p,a_.2 (.inl hp),h2,h3⟩
      ·by_cases h4:k<g
       ·exact⟨fun _=>(ih.run k (by omega) h4).2,fun _=>⟨(fr,g),a_.2 (.inr (ak.2 rfl)),by dsimp only;omega,h4⟩⟩
       ·obtain rfl:k=g:=by omega
        refine⟨fun hh=>?_,fun hh=>absurd hh (hg hkl)⟩;obtain⟨p,hp,h2,h3⟩:=hh
        rcases a_.1 hp with hp | hp
        ·have:=ih.inn p hp;omega
        ·rw[ak.1 hp]at h3;dsimp only at h3;omega
    ·rename_i hlt
     obtain rfl:fr=g:=by have:=ih.le;omega
     refine⟨au _,fun k h1 h2=>by omega,fun p hp=>?_,ih.adj,fun k hk hkl=>?_⟩
     ·have:=ih.inn p hp;dsimp only;omega
     ·dsimp only at hk
      by_cases h1:k<fr
      ·exact ih.has k h1 hkl
      ·obtain rfl:k=fr:=by omega
       refine⟨fun hh=>?_,fun hh=>absurd hh (hg hkl)⟩;obtain⟨p,hp,h2,h3⟩:=hh;have:=ih.inn p hp;omega
theorem UD (f:Nat->Bool)(o:List Nat):Wo f o (o.length+1) (Lay.parts f o) (o.length+1):=by
 have h:=Re f o (o.length+1);rw[show(iN f o (o.length+1)).2=o.length+1 by rw[yh,ay (fun h=>eG _ h.1)]]at h;exact h
structure MV where
 l:Nat
 f:Nat
 t:Nat
 a:Int
 b:Int
def KO (i:Nat)(x:List Int)(L:List (Nat × Nat)):List MV:=L.map (fun p=>⟨i,p.1,p.2,nth x p.1,nth x p.2⟩)
def jH:List MV->List Value
 | []=>[]
 | x :: l=>.int .i64 (x.l:Nat) :: .int .i64 (x.f:Nat) :: .int .i64 (x.t:Nat) :: .int .i64 x.a :: .int .i64 x.b :: jH l
theorem uj:∀l m:List MV,jH l++jH m=jH (l++m)
 | [],_=>rfl
 | x :: l,m=>by simp only[jH,bV,uj l m]
theorem Rf (a b c d e:Int):∀u∈[Value.int .i64 a,.int .i64 b,.int .i64 c,.int .i64 d,.int .i64 e],u.oneCell'=true:=by
 intro u hu;simp only[bA,aj,fB]at hu
 rcases hu with rfl | rfl | rfl | rfl | rfl <;> rfl
theorem Ar:∀l:List MV,∀u∈jH l,u.oneCell'=true
 | [],u,h=>by simp[jH]at h
 | x :: l,u,h=>by
   simp only[jH,bA]at h
   rcases h with rfl | rfl | rfl | rfl | rfl | h <;> first | rfl | exact Ar l u h
theorem KP:(Tryz.prog.info? 251).map (fun i=>(i.zero,i.size,i.bytes))=some (some (.agg #[.int .i64 0,.int .i64 0,.int .i64 0,.int .i64 0,.int .i64 0]),5,40):=by kernel_rfl
theorem MW (j:Nat)(lf lt:Int)(vO:Value)(gX cX:Nat)(x:List Int)(L:List (Nat × Nat))(vS:Value)(B:Nat)(w:World)(hX:∀t,t<x.length->w.cell? ⟨gX,t,none⟩=some (.int .i64 (nth x t)))(hS:w.ownsRow B 249 2 vS L.length (mG L))(hL:∀p∈L,p.1<p.2/\p.2<x.length)(hn:L.length<=10000) :
 Calls prog 105 #[.int .i64 j,.agg #[.int .i64 lf,.int .i64 lt,vO,.slice (some ⟨gX,0,none⟩) x.length cX],vS] w fun e w'=>∃v,e=.returned v/\w'.ownsRow w.heap.size 251 5 v (KO j x L).length (jH (KO j x L))/\Fr [] w w':=by
 obtain⟨i0,hi,hz0,hz1,hz2⟩:=fY KP;obtain⟨aS,cS,rfl⟩:=iW hS;obtain⟨n,hnn⟩:∃n,n=L.length:=⟨_,rfl⟩;obtain⟨lx,hlx⟩:∃lx,lx=x.length:=⟨_,rfl⟩;have HX:=hid hX;have HS:=hid hS;have HL:=hid hL;have HN:=hid hnn;have ZO:=hid hlx;rw[<-hnn]at hn ⊢;rw[<-hlx];obtain⟨wb,hwb⟩:∃wb,wb=w.alloc (.cells #[.int .i64 lf,.int .i64 lt,vO,.slice (some ⟨gX,0,none⟩) lx cX] 69):=⟨_,rfl⟩;have j8:=hid (show Fr [] w wb by rw[hwb];exact(Fr.refl [] w).alloc _);have nD:=hid (show wb.heap[w.heap.size]?=some (.cells #[.int .i64 lf,.int .i64 lt,vO,.slice (some ⟨gX,0,none⟩) lx cX] 69 (0,0)) by rw[hwb];exact iL w _);obtain⟨R,hR⟩:∃R,R=KO j x L:=⟨_,rfl⟩;rw[<-hR];have HR:=hid hR;clear hX hS hL hnn hlx hR;go_enter func105,ntmps105;go_wp2_with fail;rw[<-hwb];have Gw:wb.heap.size=w.heap.size+1:=by rw[hwb];simp
 clear hwb;go_loopw [7,12] (fun vo kk wr=>∃t:Nat,kk=.int .i64 t/\t<=n/\Hid (Fr [] wb wr)/\Hid (wr.ownsRow (w.heap.size+1) 251 5 vo t (jH (KO j x (L.take t))))) (fun _ kk _=>n - (intOf kk).toNat)
 case atStart=>exact⟨0,rfl,aN _,hid (Fr.refl _ _),hid (fQ _ _ _ _)⟩
 case round =>
  obtain⟨t,rfl,htn,KB,Wp⟩:=hrel;have qQ:=hid (j8.out.trans KB.out);by_cases htl:t<n
  ·have V6:(t:Int)<(n:Int):=by omega
   obtain⟨p,hp⟩:∃p,L[t]?=some p:=⟨_,aA (by have:=HN.out;omega)⟩;obtain⟨hp1,hp2⟩:=HL.out p (eW hp);rw[<-ZO.out]at hp2;obtain⟨gS,NU,AH⟩:=iQ (by have:=HN.out;omega) HS.out;cases AH;have hown:=iM HS.out qQ.out;obtain⟨a1,a2⟩:=sO L t p hp;have c0:wr.cell? ⟨gS,t * 2,none⟩=some (.int .i64 (p.1:Nat)):=by rw[hown.cellAt _ (by have:=HN.out;omega)];exact a1
   have c1:wr.cell? ⟨gS,t * 2+1,none⟩=some (.int .i64 (p.2:Nat)):=by rw[hown.cellAt _ (by have:=HN.out;omega)];exact a2
   have q1:wr.cell? ⟨w.heap.size,3,none⟩=some (.slice (some ⟨gX,0,none⟩) lx cX):=iG (iJ nD.out KB.out aj) (i:=3) rfl;have q2:=qQ.out.cell (HX.out p.1 (by have:=ZO.out;omega)) aj;have q3:=qQ.out.cell (HX.out p.2 (by have:=ZO.out;omega)) aj
   have DD:=hid (show KO j x (L.take (t+1))=KO j x (L.take t)++[⟨j,p.1,p.2,nth x p.1,nth x p.2⟩] by
    unfold KO
    rw[eU,hp,dz];rfl)
   have HXL:=hid (HX.out p.1 (by have:=ZO.out;omega));generalize nth x p.1=xa at *;generalize nth x p.2=xb at *;generalize p.1=f0 at *;generalize p.2=k0 at *;have TA:(f0:Int)<(lx:Int):=by omega
   have wX:(k0:Int)<(lx:Int):=by omega
   clear hown a1 a2 hp;have afy:=fC _ _ HXL.out;dsimp only at afy;go_wp2_with fail;clear c0 c1;obtain⟨w1,hw1⟩:∃w1,w1=wr.alloc (.cells #[.int .i64 f0,.int .i64 k0] 249):=⟨_,rfl⟩;obtain⟨gP,MX⟩:∃gP,gP=wr.heap.size:=⟨_,rfl⟩;have jc:=hid (show Fr [] wr w1 by rw[hw1];exact(Fr.refl [] wr).alloc _);have PR:=hid (show w1.heap[gP]?=some (.cells #[.int .i64 f0,.int .i64 k0] 249 (0,0)) by rw[hw1,MX];exact iL wr _);have ajz:w1.heap.size=gP+1:=by rw[hw1,MX];simp
   have hgt:=KB.out.size;have E0:=hid (fun g (hg:u7.ownBlock=some g)=>show w.heap.size+1<=g/\g<gP by rw[MX];exact Wp.out.lt g hg);rw[<-hw1,<-MX];rw[<-MX]at hgt;have s0:=iG PR.out (i:=0) rfl;have s1:=iG PR.out (i:=1) rfl;have s2:=jc.out.cell q1 aj;have s3:=jc.out.cell q2 aj;have s4:=jc.out.cell q3 aj;have lT:=hid (iM Wp.out jc.out);clear q1 q2 q3 hw1 MX
   have V7:=hid (fun(w1' w':World) (hf:Fr [] w1 w1') (hg:w1'.grownBy w' u7.ownBlock)=>show w'.cell? ⟨gP,0,none⟩=some (.int .i64 f0)/\w'.cell? ⟨gP,1,none⟩=some (.int .i64 k0)/\w'.cell? ⟨w.heap.size,3,none⟩=some (.slice (some ⟨gX,0,none⟩) lx cX)/\w'.cell? ⟨gX,f0,none⟩=some (.int .i64 xa)/\w'.cell? ⟨gX,k0,none⟩=some (.int .i64 xb)from by
    have hs:=hf.size
    have K:∀(b o:Nat) (v:Value),b<gP+1->(∀g,u7.ownBlock=some g->g≠b)->w1.cell? ⟨b,o,none⟩=some v->w'.cell? ⟨b,o,none⟩=some v:=fun b o v hb hne hc =>
     (gM (a:=⟨b,o,none⟩) (hg.block b (by omega) (fun e=>hne b e.symm rfl))).trans (hf.cell hc aj)
    have h1:∀g,u7.ownBlock=some g->g≠gP:=fun g hg=>by have:=E0.out g hg;omega
    have h2:∀g,u7.ownBlock=some g->g≠w.heap.size:=fun g hg=>by have:=E0.out g hg;omega
    have h3:∀g,u7.ownBlock=some g->g≠gX:=fun g hg=>by have:=E0.out g hg;omega
    exact⟨K _ _ _ (by omega) h1 s0,K _ _ _ (by omega) h1 s1,K _ _ _ (by omega) h2 s2,K _ _ _ (by omega) h3 s3,K _ _ _ (by omega) h3 s4⟩)
   have hb0:gP<w1.heap.size:=by omega
   have hb1:w.heap.size<w1.heap.size:=by omega
   have hb2:gX<w1.heap.size:=by omega
   go_region_held_law (fun w'=>w'.cell? ⟨gP,0,none⟩=some (.int .i64 f0)/\w'.cell? ⟨gP,1,none⟩=some (.int .i64 k0)/\w'.cell? ⟨w.heap.size,3,none⟩=some (.slice (some ⟨gX,0,none⟩) lx cX)/\w'.cell? ⟨gX,f0,none⟩=some (.int .i64 xa)/\w'.cell? ⟨gX,k0,none⟩=some (.int .i64 xb)) (first | exact l9 | go_keep) ((refine Cf rfl (.tmp 16) (.tmp 35) 29 rfl (w.heap.size+1) 251 i0 _ 5 40 underlying29 hi hz0 hz1 hz2 rfl (by decide) u7 t (jH (KO j x (L.take t))) ?q1 ?q2 ⟨w1.heap.size,0,none⟩ 1 1 [.int .i64 j,.int .i64 f0,.int .i64 k0,.int .i64 xa,.int .i64 xb] ?q3 rfl ?q4 (Rf _ _ _ _ _) (by unfold maxLen;omega) (by omega) ?q5 ?_;(case q1=>first | rfl | simp[Act.eval]);(case q2=>exact iM lT.out (Xw _ _));(case q3=>first | rfl | simp[Act.eval]);(case q4=>exact kM _ _ _ _ (by simp));(case q5=>simp;omega);intro v' w' hown hgrow;have nH:=hid hown;have HG2:=hid hgrow;have l9:=V7.out _ _ (Xw _ _) hgrow;clear hown hgrow))
   all_goals (
    have DC:=hid (show Fr [] wb w' from Fr.grown ((KB.out.trans jc.out).trans (Xw w1 (.cells #[.int .i64 j,.int .i64 f0,.int .i64 k0,.int .i64 xa,.int .i64 xb] 251))) HG2.out (fun g hg=>by have:=E0.out g hg;omega))
    have Um:=hid (show w'.ownsRow (w.heap.size+1) 251 5 v' (t+1) (jH (KO j x (L.take (t+1)))) by rw[DD.out,<-uj];exact nH.out)
    go_wp2
    go_roundw
    case rel=>exact⟨t+1,by go_num,by omega,DC,Um⟩
    case measure=>simp[intOf];omega)
  ·obtain rfl:t=n:=by omega
   have V6:¬(t:Int)<(t:Int):=by omega
   have HFin:=hid (show wr.ownsRow w.heap.size 251 5 u7 R.length (jH R) by
    have h:=Wp.out
    rw[show L.take t=L by rw[HN.out,c_],<-HR.out]at h
    have e:R.length=t:=by rw[HR.out,KO,cP,HN.out]
    rw[e]
    exact iU h (by omega))
   go_wp2;go_ret;exact⟨_,rfl,HFin.out,qQ.out⟩
theorem MY {P:Program}{ops:Array Oper}{o:Oper}{a:Act}{w:World}{K:Act->World->Prop}{Q:Exit->Act->World->Prop}{X:Prop}
 (hg:o.guard=none) (s x:Operand) (t:TypeId) (hop:o.op=Op.call { callee:=Callee.builtin Builtin.append,args:=#[s,x],argTypes:=#[t,t] })
 (base:Nat) (e:TypeId) (i:TypeInfo) (z:Value) (size bytes:Nat) (h1:P.underlying t=some (.slice e)) (h2:P.info? e=some i) (h3:i.zero=some z) (h4:i.size=size) (h5:i.bytes=bytes) (h6:z.cells.size=size) (h7:0<size)
 (v:Value) (n:Nat) (xs:List Value) (hs:a.eval s=v) (hown:w.ownsRow base e size v n xs)
 (B':Nat) (vx:Value) (m:Nat) (news:List Value) (hx:a.eval x=vx) (hnx:w.ownsRow B' e size vx m news) (h1c:∀u∈news,u.oneCell'=true)
 (b1:n+m<=maxLen) (b2:(n+m) * bytes<=140737488355328) (b3:base<=w.heap.size)
 (hK:∀v' w',w'.ownsRow base e size v' (n+m) (xs++news)->w.grownBy w' v.ownBlock->K (a.put o.dst v') w') :
 if Region.wanted o (yielded ops a.tmps)=true then Oper.wp P o a w K Q else X:=by
 have hl:=hnx.1
 rcases hnx.2 with⟨hv,hm⟩ | ⟨g,cap,cur,hv,_⟩
 ·have hw:Region.wanted o (yielded ops a.tmps)=true:=by simp[Region.wanted,hg]
  rw[aE hw];have hnil:news=[]:=dY.1 (by rw[hl,hm,Nat.zero_mul]);have hrun:=run_append_owned_none (P:=P) (w:=w) base t o.type e i size h1 h2 v n xs hown;subst hnil;subst hm;have hk:=hK v w (by simpa using hown) ⟨rfl,rfl,rfl,au _,fun _ _ _=>rfl⟩;unfold Oper.wp;simp[execOp,hop,resolve,invoke,builtin,hs,hx,hv,hrun,Result.andThen];exact hk
 ·exact Cf hg s x t hop base e i z size bytes h1 h2 h3 h4 h5 h6 h7 v n xs hs hown ⟨g,0,none⟩ m cap news (hx.trans hv) hl (fun j u hu=>by
   rw[hv]at hnx
   have hj:j<news.length:=(aY.1 hu).1
   have h:=hnx.cellAt j (by omega)
   rw[hu]at h
   rcases bO j with h9 | h9
   ·subst h9;exact h
   ·simpa[Addr.add,show ¬j=0 by omega] using h) h1c b1 b2 b3 hK
theorem MZ (F:Nat)(caps:Array Value)(w:World) :
 Calls prog 106 #[.slice none 0 0,.func (.func F) #[] caps] w fun e w'=>e=.returned (.slice none 0 0)/\w'=w:=by
 go_enter func106,ntmps106;go_wp2_with fail;go_loopw [5,6,11] (fun vo ff gg wr=>∃k:Nat,gg=.int .i64 k/\k<=1/\ff=.int .i64 k/\vo=.slice none 0 0/\wr=w) (fun _ _ gg _=>1 - (intOf gg).toNat)
 case atStart=>exact⟨0,rfl,aN _,rfl,by simp⟩
 case round =>
  obtain⟨k,rfl,hk,rfl,rfl,rfl⟩:=hrel;by_cases h:k<1
  ·obtain rfl:k=0:=by omega
   go_wp2;go_roundw
   case rel=>exact⟨1,rfl,au _,rfl,by simp⟩
   case measure=>simp[intOf]
  ·obtain rfl:k=1:=by omega
   go_wp2;go_ret;exact⟨rfl,rfl⟩
theorem M3 (F:Nat)(caps:Array Value)(p:Nat->Bool)(o:List Nat)(B:Nat)(v:Value)(w:World)(hl:o.length<=1000)(hO:w.ownsRow B 3 1 v o.length (jk o))(eg:∀args w,(callFunc F args).run prog w=.ok (.enter F args) w)
 (hf:∀X,Fr [] w X->∀i,i<o.length->Calls prog F (#[.int .i64 (iP o i:Nat)]++caps) X fun e w'=>e=.returned (.bool (p (iP o i)))/\∃q,w'=X.drewN q) :
 Calls prog 106 #[v,.func (.func F) #[] caps] w fun e w'=>∃v,e=.returned v/\w'.ownsRow w.heap.size 249 2 v (Lay.parts p o).length (mG (Lay.parts p o))/\Fr [] w w':=by
 rcases hO.2 with⟨hv,h0⟩ | ⟨g,cap,cur,hv,_⟩
 ·rw[hv]
  refine(MZ F caps w).mono ?_;rintro e w' ⟨rfl,rfl⟩;have:Lay.parts p o=[]:=by rw[dY.1 h0];rfl
  rw[this];exact⟨_,rfl,fQ _ _ _ _,Fr.refl _ _⟩
 ·rw[hv]at hO ⊢
  exact D9 F caps p o g cap w hl (nF hO rfl) eg hf
end Go.Proofs.YtnakejhohdbfdacGreatDoor

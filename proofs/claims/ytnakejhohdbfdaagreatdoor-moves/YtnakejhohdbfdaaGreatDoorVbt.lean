import Derived.Test.YtnakejhohdbfdaaGreatDoorVbm
set_option maxHeartbeats 8000000
set_option maxRecDepth 10000
namespace Go.Proofs.YtnakejhohdbfdaaGreatDoor
open Go.RowKit jN Lay uS Go.Proofs.Tryz
theorem SW (WB:World)(U lb:Nat)(s:ByteArray)(bs:Int)(vC vM:Value)(Bd V X:List Int)(Ls:List Ln)(hm:List Value)(n:Nat)(off o:Int)(back bk:Bool)(I Q:Nat)(w:World)(h:LD WB w U lb s bs vC vM (NF Bd V X V.length) Ls hm)(hs:s.size<=1000000)(hT:Floor w)(hend:gJ.Ends s n)(T:xy Bd V Ls)(hv4:V.length<=400)(hK:Ls.length<=400)(hlo:∀l∈Ls,l.o.length<=1000)(hp:fY (bnd s n) (s.size:Nat) off back=(o,bk))
 (hI:I<Ls.length) (hQ:Q<(ji Ls I).o.length) (hit:nth Bd (if bk=true then fX (ji Ls I).o Q+1 else fX (ji Ls I).o Q)=o)
 (hno:∀i k,i<Ls.length->k<(ji Ls i).o.length->(i<I\/i=I/\k<Q)->nth Bd (if bk=true then fX (ji Ls i).o k+1 else fX (ji Ls i).o k)≠o) :
 Calls prog 20 #[.pointer (some ⟨lb,0,none⟩),.agg #[.int .i64 off,.bool back]] w fun e w'=>e=.returned (.agg #[.int .i64 (I:Nat),.int .i64 ((if bk=(nth V (fX (ji Ls I).o Q) % 2 == 1)then Q else Q+1:Nat):Int)])/\Fr [] w w':=by
 have zN:=hid (fun(Y:World) (hf:Fr [] w Y)=>xA WB U lb s bs vC vM (NF Bd V X V.length) Ls hm n off back Y (h.iS hf) hs (hT.fr hf) hend);rw[hp]at zN;have sZ:=hid (fun(i:Nat) (hi:i<Ls.length)=>h.Du i _ (mL hi));have Ir:=hid h.qa;obtain⟨gL,cL,qw⟩:=fR (by omega) h.qa;subst qw;have DX:=hid h.wT;rw[K9]at DX;have hvp:0<V.length:=by have:=T.ob _ (kE hI) _ (kK hQ);omega
 obtain⟨gC,cC,Me⟩:=fR hvp DX.out;subst Me;have qy:=hid (fun(i:Nat) (hi:i<Ls.length)=>T.ob _ (kE hi));have Cz:=hid (fun(i:Nat) (hi:i<Ls.length)=>hlo _ (kE hi));have Iy:=hid T.vb;have Nx:=hid hit;have zi:=hid hno;have Is:=hid h.obj;have rW:=h_ h.obj;have HQ:=hid hQ;obtain⟨gp,tK⟩:∃gp:Nat,gp=(if bk=(nth V (fX (ji Ls I).o Q) % 2 == 1)then Q else Q+1:Nat):=⟨_,rfl⟩;rw[<-tK];have Us:=hid tK;have hQ1:Q<=1000:=by have:=hlo _ (kE hI);omega
 obtain⟨K,hK'⟩:∃K,K=Ls.length:=⟨_,rfl⟩;rw[<-hK']at sZ Ir hK hI qy Cz zi Is;obtain⟨w2,hw2⟩:∃w2,w2=(w.alloc (.cells #[.int .i64 off,.bool back] 55)).alloc (.cells #[.int .i64 0,.int .i64 0] 58):=⟨_,rfl⟩;have f_:=hid (show Fr [] w w2 by rw[hw2];exact((Fr.refl _ _).alloc _).alloc _);have iG:=hid (show w2.heap[w.heap.size]?=some (.cells #[.int .i64 off,.bool back] 55 (0,0)) by rw[hw2];exact fO (fU w _) ((Fr.refl [] _).alloc _) af)
 have HR2:=hid (show w2.heap[w.heap.size+1]?=some (.cells #[.int .i64 0,.int .i64 0] 58 (0,0)) by
  have hs:(w.alloc (.cells #[.int .i64 off,.bool back] 55)).heap.size=w.heap.size+1:=by simp
  have h0:=fU (w.alloc (.cells #[.int .i64 off,.bool back] 55)) (.cells #[.int .i64 0,.int .i64 0] 58)
  rw[hs]at h0
  rw[hw2];exact h0)
 clear h hT hend T hlo hp hit hno hQ tK hK' hs;go_enter func20,ntmps20;have HW2:=hid hw2;clear hw2;go_wp2_with fail;rw[<-HW2.out];refine(zN.out _ f_.out).mono ?_;rintro e w3 ⟨rfl,hf3⟩;have k9:=hid (fO iG.out hf3 af);have HR3:=hid (fO HR2.out hf3 af);have iO:=hid (f_.out.trans hf3);have z0:=fN k9.out (i:=0) (v:=.int .i64 off) rfl;have z1:=fN k9.out (i:=1) (v:=.bool back) rfl;have f0:=fT k9.out 0;have f1:=fT k9.out 1;clear hf3;go_wp2_with fail;obtain⟨w4,hw4⟩:∃w4,w4=(w3.setCell ⟨w.heap.size,0,none⟩ (.int .i64 o)).setCell ⟨w.heap.size,1,none⟩ (.bool bk):=⟨_,rfl⟩;have jD:=hid (show w4.heap[w.heap.size]?=some (.cells #[.int .i64 o,.bool bk] 55 (0,0)) by rw[hw4];exact fP (fP k9.out 0 _) 1 _);have HR4:=hid (show w4.heap[w.heap.size+1]?=some (.cells #[.int .i64 0,.int .i64 0] 58 (0,0)) by rw[hw4];exact fO HR3.out (show Fr [w.heap.size] w3 _ by(repeat(first | refine Fr.set ?_ (aj.2 rfl) _ | refine Fr.drewN ?_ _ | refine Fr.drew ?_ | with_reducible exact Fr.refl _ _ | refine Fr.alloc ?_ _))) (by simp));have gP:=hid (show Fr [] w w4 by rw[hw4];exact Fr.fQ (Fr.fQ iO.out (by omega)) (by omega));rw[<-hw4];clear hw4 z0 z1 f0 f1;go_loopw [5] (fun vi wr=>∃i:Nat,vi=.int .i64 i/\i<=I/\Hid (Fr [] w4 wr)) (fun vi _=>I+1 - (intOf vi).toNat)
 case atStart=>exact⟨0,rfl,aH _,hid (Fr.refl _ _)⟩
 case round =>
  obtain⟨i,rfl,sY,HR⟩:=hrel;have hiK:i<K:=by omega
  have ac4:(i:Int)<(K:Int):=by omega
  obtain⟨vO,vX,_,_,a3,_,a5,_⟩:=sZ.out i hiK;obtain⟨aO,cO,Dd⟩:=gA a5;subst Dd;have C3:=hid (show w.cell? ⟨gL,i * 4+2,none⟩=some (.slice aO (ji Ls i).o.length cO) by rw[Ir.out.cellAt _ (by omega)];exact a3);have HOO:=hid a5;have Zu:=hid (fun(k:Nat) (hk:k<(ji Ls i).o.length) (h:i<I\/i=I/\k<Q)=>zi.out i k hiK hk h);have ac5:=hid (qy.out i hiK);have hlo1:=Cz.out i hiK;have HQi:=hid (show i=I->Q<(ji Ls i).o.length/\nth Bd (if bk=true then fX (ji Ls i).o Q+1 else fX (ji Ls i).o Q)=o/\gp=(if bk=(nth V (fX (ji Ls i).o Q) % 2 == 1)then Q else Q+1:Nat)from fun e=>by rw[e];exact⟨HQ.out,Nx.out,Us.out⟩);obtain⟨O,hO⟩:∃O,O=(ji Ls i).o:=⟨_,rfl⟩;rw[<-hO]at C3 HOO Zu ac5 hlo1 HQi;obtain⟨lo,De⟩:∃lo,lo=O.length:=⟨_,rfl⟩;have tI:=hid De;rw[<-De]at C3 HOO Zu hlo1 HQi;have m3:=fN (fO Is.out (gP.out.trans HR.out) af) (i:=3) (v:=.slice (some ⟨gL,0,none⟩) K cL) rfl;clear a3 a5 hO De;go_wp2_with fail;clear m3;go_loopw [6] (fun vk wr2=>∃k:Nat,vk=.int .i64 k/\k<=lo/\Hid (i=I->k<=Q)/\Hid (Fr [] w4 wr2)) (fun vk _=>lo - (intOf vk).toNat)
  case atStart=>exact⟨0,rfl,aH _,hid (fun _=>aH _),HR⟩
  case round =>
   obtain⟨k,rfl,hk,HKQ,HR2⟩:=hrel;have FW:=gP.out.trans HR2.out;have m2:=fN (fO Is.out FW af) (i:=2) (v:=.slice (some ⟨gC,0,none⟩) V.length cC) rfl;have m3:=fN (fO Is.out FW af) (i:=3) (v:=.slice (some ⟨gL,0,none⟩) K cL) rfl;have c3:=FW.cell C3.out af;have HOr:=hid (fO jD.out HR2.out af);have s0:=fN HOr.out (i:=0) (v:=.int .i64 o) rfl;have s1:=fN HOr.out (i:=1) (v:=.bool bk) rfl;by_cases hlt:k<lo
   ·have sX:(k:Int)<(lo:Int):=by omega
    obtain⟨gO,cO',Dd⟩:=fR (by omega) HOO.out;cases Dd;have FI:=hid (fS HOO.out FW);have zL:=hid (fS DX.out FW);obtain⟨c0,hc0⟩:∃c0,c0=fX O k:=⟨_,rfl⟩;have d0:wr.cell? ⟨gO,k,none⟩=some (.int .i64 (c0:Nat)):=by rw[hc0,FI.out.cellAt k (by omega)];exact kJ (by rw[<-tI.out];exact hlt)
    have hcV:c0<V.length:=by rw[hc0];exact ac5.out (fX O k) (kK (by rw[<-tI.out];exact hlt))
    obtain⟨e0,e1,e2,e3⟩:=p_ _ c0 _ (J6 Bd V X hcV);have y0:wr.cell? ⟨gC,c0 * 4,none⟩=some (.int .i64 (nth Bd c0)):=by rw[zL.out.cellAt _ (by omega)];exact e0
    have y1:wr.cell? ⟨gC,c0 * 4+1,none⟩=some (.int .i64 (nth Bd (c0+1))):=by rw[zL.out.cellAt _ (by omega)];exact e1
    have y2:wr.cell? ⟨gC,c0 * 4+2,none⟩=some (.int .i64 (nth V c0)):=by rw[zL.out.cellAt _ (by omega)];exact e2
    have y3:wr.cell? ⟨gC,c0 * 4+3,none⟩=some (.int .i64 (nth X c0)):=by rw[zL.out.cellAt _ (by omega)];exact e3
    have hlv:=(Iy.out c0).1;have hcI:(c0:Int)<(V.length:Int):=by omega
    have yg:=hid (show ¬(i=I/\k=Q)->nth Bd (if bk=true then c0+1 else c0)≠o from fun hne=>by
     rw[hc0]
     exact Zu.out k hlt (by have h1:=HKQ.out;by_cases hi1:i=I <;> omega))
    have ZU:=hid (show i=I/\k=Q->nth Bd (if bk=true then c0+1 else c0)=o/\gp=(if bk=(nth V c0 % 2 == 1)then k else k+1:Nat)from fun he=>by
     have h:=HQi.out he.1
     rw[hc0,he.2];exact h.2)
    have hsel:nth Bd (if bk=true then c0+1 else c0)=if bk=true then nth Bd (c0+1)else nth Bd c0:=by split <;> rfl
    rw[hsel]at yg ZU;clear hsel;have IC:gC<wr.heap.size:=eS _ _ y0;have hgO:gO<wr.heap.size:=eS _ _ d0;have hgL:gL<wr.heap.size:=eS _ _ c3;have YS:lb<wr.heap.size:=eS _ _ m2;have hrb:w.heap.size<wr.heap.size:=eS _ _ s0;have HRr:=hid (fO HR4.out HR2.out af);have r0:=fN HRr.out (i:=0) (v:=.int .i64 0) rfl;have r1:=fN HRr.out (i:=1) (v:=.int .i64 0) rfl;have g0:=fT HRr.out 0;have g1:=fT HRr.out 1;have ams:w.heap.size+1<wr.heap.size:=eS _ _ r0;have hn1:gO≠wr.heap.size:=by omega
    have hn2:gC≠wr.heap.size:=by omega
    have hn3:lb≠wr.heap.size:=by omega
    have DC:gL≠wr.heap.size:=by omega
    have hn5:w.heap.size≠wr.heap.size:=by omega
    have hn6:w.heap.size+1≠wr.heap.size:=by omega
    generalize nth Bd c0=x0 at *;generalize nth Bd (c0+1)=x1 at *;generalize nth V c0=lv at *;generalize nth X c0=x3 at *;clear e0 e1 e2 e3 hc0;go_wp2_with fail;go_region;obtain⟨wx,hwx⟩:∃wx,wx=(wr.alloc (.cells #[.int .i64 x0,.int .i64 x1,.int .i64 lv,.int .i64 x3] 48)).drew:=⟨_,rfl⟩;have GK:=hid (show Fr [] w4 wx by rw[hwx];exact(HR2.out.alloc _).drew);have HOx:=hid (show wx.heap[wr.heap.size]?=some (.cells #[.int .i64 x0,.int .i64 x1,.int .i64 lv,.int .i64 x3] 48 (0,0)) by rw[hwx];exact fU wr _);have HOc:=hid (fO jD.out GK.out af);have Xf:=hid (fO HR4.out GK.out af);rw[<-hwx];clear hwx d0 y0 y1 y2 y3 m2 m3 c3 s0 s1 r0 r1 g0 g1 hn1 hn2 hn3 DC hn5 hn6;have s0:=fN HOc.out (i:=0) (v:=.int .i64 o) rfl;have s1:=fN HOc.out (i:=1) (v:=.bool bk) rfl;have t0:=fN HOx.out (i:=0) (v:=.int .i64 x0) rfl;have t1:=fN HOx.out (i:=1) (v:=.int .i64 x1) rfl;have t2:=fN HOx.out (i:=2) (v:=.int .i64 lv) rfl;have r0:=fN Xf.out (i:=0) (v:=.int .i64 0) rfl;have r1:=fN Xf.out (i:=1) (v:=.int .i64 0) rfl;have g0:=fT Xf.out 0;have g1:=fT Xf.out 1;have hlm:lv % 2=0\/lv % 2=1:=by omega
    by_cases hh:i=I/\k=Q
    ·obtain⟨hsel,hge⟩:=ZU.out hh
     have O4:=hid hge;obtain⟨rfl,rfl⟩:=hh;clear ZU yg hge Us HQi Nx;cases bk
     ·obtain rfl:x0=o:=by simpa using hsel
      clear hsel
      rcases hlm with hlm | hlm
      ·have tK:=O4.out
       rw[hlm]at tK;have hgk:gp=k:=by rw[tK];rfl
       clear tK O4;subst hgk;go_wp2;refine eU (eW (t:=58) (fr:=(0,0)) rfl _ _ (w.heap.size+1) _ _ rfl (fP (fP Xf.out 0 _) 1 _) underlying58 rfl (by kernel_rfl)) rfl ?_;exact⟨rfl,Fr.fQ (Fr.fQ (gP.out.trans GK.out) (by omega)) (by omega)⟩
      ·have tK:=O4.out
       rw[hlm]at tK;have hwk:IntKind.i64.wrap ((k:Int)+1)=((gp:Nat):Int):=by rw[eT,tK];simp;omega
       clear tK;go_wp2;refine eU (eW (t:=58) (fr:=(0,0)) rfl _ _ (w.heap.size+1) _ _ rfl (fP (fP Xf.out 0 _) 1 _) underlying58 rfl (by kernel_rfl)) rfl ?_;exact⟨rfl,Fr.fQ (Fr.fQ (gP.out.trans GK.out) (by omega)) (by omega)⟩
     ·obtain rfl:x1=o:=by simpa using hsel
      clear hsel
      rcases hlm with hlm | hlm
      ·have tK:=O4.out
       rw[hlm]at tK;have hwk:IntKind.i64.wrap ((k:Int)+1)=((gp:Nat):Int):=by rw[eT,tK];simp;omega
       clear tK;go_wp2;refine eU (eW (t:=58) (fr:=(0,0)) rfl _ _ (w.heap.size+1) _ _ rfl (fP (fP Xf.out 0 _) 1 _) underlying58 rfl (by kernel_rfl)) rfl ?_;exact⟨rfl,Fr.fQ (Fr.fQ (gP.out.trans GK.out) (by omega)) (by omega)⟩
      ·have tK:=O4.out
       rw[hlm]at tK;have hgk:gp=k:=by rw[tK];rfl
       clear tK O4;subst hgk;go_wp2;refine eU (eW (t:=58) (fr:=(0,0)) rfl _ _ (w.heap.size+1) _ _ rfl (fP (fP Xf.out 0 _) 1 _) underlying58 rfl (by kernel_rfl)) rfl ?_;exact⟨rfl,Fr.fQ (Fr.fQ (gP.out.trans GK.out) (by omega)) (by omega)⟩
    ·have Uh:=hid (yg.out hh)
     have HH:=hid hh;clear ZU yg hh;cases bk
     ·have hne:x0≠o:=by have h:=Uh.out;simpa using h
      have hneb:(x0 == o)=false:=by simpa using hne
      go_wp2;go_roundw
      case rel=>exact⟨k+1,rfl,by omega,hid (fun e=>by have h1:=HKQ.out e;have h2:=HH.out;omega),GK⟩
      case measure=>simp[intOf];omega
     ·have hne:x1≠o:=by have h:=Uh.out;simpa using h
      have hneb:(x1 == o)=false:=by simpa using hne
      go_wp2;go_roundw
      case rel=>exact⟨k+1,rfl,by omega,hid (fun e=>by have h1:=HKQ.out e;have h2:=HH.out;omega),GK⟩
      case measure=>simp[intOf];omega
   ·have sX:¬(k:Int)<(lo:Int):=by omega
    have HNI:=hid (show i≠I from fun e=>by have h1:=(HQi.out e).1;have h2:=HKQ.out e;omega);go_wp2;go_roundw
    case rel=>exact⟨i+1,by go_num,by have:=HNI.out;omega,HR2⟩
    case measure=>simp[intOf];omega
end Go.Proofs.YtnakejhohdbfdaaGreatDoor

import Derived.Test.YtnakejhohdbfdaaGreatDoorVbm
set_option maxHeartbeats 4000000
set_option maxRecDepth 10000
namespace Go.Proofs.YtnakejhohdbfdaaGreatDoor
open Go.RowKit jN Lay uS Go.Proofs.Tryz
theorem SV (B P:Nat)(Bd V X:List Int)(r z:Int)(Ls:List Ln)(v0 v1 v2 vL:Value)(hs:List Value)(off o:Int)(back bk:Bool)(c i k:Nat)(w:World)(h:LP w B P Bd V X r Ls v0 v1 v2 vL hs)(hr:jf Bd z)(hz:0<=z)(T:xy Bd V Ls)(hbd:Bd.length=V.length+1)(hv4:V.length<=400)(hK:Ls.length<=400)(hlo:∀l∈Ls,l.o.length<=1000)(hp:fY Bd z off back=(o,bk))(hc:c<V.length)(hcc:cidx Bd o=if bk=true then c+1 else c)(hi:Holds Ls (nth Bd c) i)(hk:uE (ji Ls i).o c k) :
 Calls prog 59 #[.pointer (some ⟨P,0,none⟩),.agg #[.int .i64 off,.bool back]] w fun e w'=>e=.returned (.agg #[.int .i64 (i:Nat),.int .i64 ((if bk=(nth V c % 2 == 1)then k else k+1:Nat):Int)])/\Fr [] w w':=by
 obtain⟨gB,cB,hvB,_,wV⟩:=h.b.row (by omega);obtain⟨gV,cV,hvV,_,Ut⟩:=h.v.row (by omega);have hil:=hi.lt;have hmem:=kE hil;obtain⟨U,hU,hn⟩:=h.n;obtain⟨gL,cL,qw⟩:=fR (by omega) h.l;obtain⟨vO,vX,_,_,a3,_,a5,_,_⟩:=hn i _ (mL hil);have hkl:=hk.lt;obtain⟨gO,cO,Dd⟩:=fR (by omega) a5;subst hvB hvV qw Dd;have Rp:=hid (jJ a5 rfl);have H57:=hid (fun(Y:World) (hf:Fr [] w Y)=>xz B P Bd V X r z Ls _ _ v2 _ hs off back Y (h.fr hf (fun k hk=>absurd hk af)) hr hz (by omega));rw[hp]at H57;have Zt:=hid (fun(Y:World) (hf:Fr [] w Y)=>Cx Bd z hr o gB cB Bd.length (.slice (some ⟨gV,0,none⟩) V.length cV) v2 Y rfl (by omega) (wV.fr hf af));have ahc:=hid (fun(Y:World) (hf:Fr [] w Y)=>NN Ls (nth Bd c) i B U gL cL Ls.length hs Y hi rfl hK (fS h.l hf) (hn.fr (fun _ _ _ _ _ _ h=>fS h hf)));have ahd:=hid (fun(Y:World) (hf:Fr [] w Y)=>NO (ji Ls i).o c k gO (ji Ls i).o.length cO Y rfl hk (hlo _ hmem) (Rp.out.fr hf af));have SA:=hid (fun(Y:World) (hf:Fr [] w Y)=>Cm V gV V.length cV c (.slice (some ⟨gB,0,none⟩) Bd.length cB) v2 Y hc (Ut.fr hf af) (T.vb c).1);have p0:=fN h.o (i:=0) (v:=.slice (some ⟨gB,0,none⟩) Bd.length cB) rfl;have p1:=fN h.o (i:=1) (v:=.slice (some ⟨gV,0,none⟩) V.length cV) rfl;have p2:=fN h.o (i:=2) (v:=v2) rfl;have p3:=fN h.o (i:=3) (v:=.slice (some ⟨gL,0,none⟩) Ls.length cL) rfl;have c2:w.cell? ⟨gL,i * 4+2,none⟩=some (.slice (some ⟨gO,0,none⟩) (ji Ls i).o.length cO):=by rw[h.l.cellAt _ (by omega)];exact a3
 have cb:=wV c (by omega);have rW:P<w.heap.size:=eS _ _ p3;have e1:=eS _ _ c2;have e2:=eS _ _ cb;dsimp only at e1 e2;rw[hcc]at Zt;obtain⟨m,hm⟩:∃m:Nat,m=if bk=true then c+1 else c:=⟨_,rfl⟩
 rw[<-hm]at Zt;have HM:=hid hm;obtain⟨lf,hlf⟩:∃lf,lf=(nth V c % 2 == 1):=⟨_,rfl⟩;rw[<-hlf]at SA ⊢;obtain⟨gp,tK⟩:∃gp:Nat,gp=(if bk=lf then k else k+1:Nat):=⟨_,rfl⟩;rw[<-tK];have Us:=hid tK;have FX:0<V.length:=by omega
 have hcI:(c:Int)<(Bd.length:Int):=by omega
 have sY:(i:Int)<(Ls.length:Int):=by omega
 have hkb:k<=1000:=by have:=hlo _ hmem;omega
 generalize nth Bd c=y at *;generalize (ji Ls i).o.length=lo at *;generalize Ls.length=K at *;generalize Bd.length=nB at *;generalize V.length=nV at *;have amo:(((nV:Nat):Int) == 0)=false:=by simp;omega
 have hmb:m<=1000:=by rw[hm];split <;> omega
 clear h hr T hp hcc hi hk hn a3 a5 hlo wV Ut Rp hlf tK hmem hm hbd;obtain⟨w2,hw2⟩:∃w2,w2=(w.alloc (.cells #[.int .i64 off,.bool back] 55)).alloc (.cells #[.int .i64 0,.int .i64 0] 58):=⟨_,rfl⟩;have f_:=hid (show Fr [] w w2 by rw[hw2];exact((Fr.refl _ _).alloc _).alloc _);have iG:=hid (show w2.heap[w.heap.size]?=some (.cells #[.int .i64 off,.bool back] 55 (0,0)) by rw[hw2];exact fO (fU w _) ((Fr.refl [] _).alloc _) af)
 have HR2:=hid (show w2.heap[w.heap.size+1]?=some (.cells #[.int .i64 0,.int .i64 0] 58 (0,0)) by
  have hs:(w.alloc (.cells #[.int .i64 off,.bool back] 55)).heap.size=w.heap.size+1:=by simp
  have h0:=fU (w.alloc (.cells #[.int .i64 off,.bool back] 55)) (.cells #[.int .i64 0,.int .i64 0] 58)
  rw[hs]at h0
  rw[hw2];exact h0)
 go_enter func59,ntmps59;have HW2:=hid hw2;clear hw2;go_wp2_with fail;rw[<-HW2.out];refine(H57.out _ f_.out).mono ?_;rintro e w3 ⟨rfl,hf3⟩;have k9:=hid (fO iG.out hf3 af);have HR3:=hid (fO HR2.out hf3 af);have iO:=hid (f_.out.trans hf3);have z0:=fN k9.out (i:=0) (v:=.int .i64 off) rfl;have z1:=fN k9.out (i:=1) (v:=.bool back) rfl;have f0:=fT k9.out 0;have f1:=fT k9.out 1;have P0:=hid p0;have P1:=hid p1;have P2:=hid p2;have P3:=hid p3;have C2:=hid c2;have CB:=hid cb;clear hf3 p0 p1 p2 p3 c2 cb;have q0:=iO.out.cell P0.out af;have q1:=iO.out.cell P1.out af;have q2:=iO.out.cell P2.out af;have hnP:P≠w.heap.size:=by omega
 go_wp2_with fail;obtain⟨w4,hw4⟩:∃w4,w4=(w3.setCell ⟨w.heap.size,0,none⟩ (.int .i64 o)).setCell ⟨w.heap.size,1,none⟩ (.bool bk):=⟨_,rfl⟩;have jD:=hid (show w4.heap[w.heap.size]?=some (.cells #[.int .i64 o,.bool bk] 55 (0,0)) by rw[hw4];exact fP (fP k9.out 0 _) 1 _);have HR4:=hid (show w4.heap[w.heap.size+1]?=some (.cells #[.int .i64 0,.int .i64 0] 58 (0,0)) by rw[hw4];exact fO HR3.out (show Fr [w.heap.size] w3 _ by(repeat(first | refine Fr.set ?_ (aj.2 rfl) _ | refine Fr.drewN ?_ _ | refine Fr.drew ?_ | with_reducible exact Fr.refl _ _ | refine Fr.alloc ?_ _))) (by simp));have gP:=hid (show Fr [] w w4 by rw[hw4];exact Fr.fQ (Fr.fQ iO.out (by omega)) (by omega));rw[<-hw4];clear hw4 z0 z1 f0 f1 q0 q1 q2;have q0:=gP.out.cell P0.out af;have q1:=gP.out.cell P1.out af;have q2:=gP.out.cell P2.out af;have s3:=fN jD.out (i:=0) (v:=.int .i64 o) rfl;go_cut [5]from 8 to 99 (fun v wx=>v=.int .i64 (m:Nat)/\Hid (Fr [] w4 wx))
 case first =>
  go_region_with (first
   | (go_at_call 102;refine(Zt.out _ ?fa).mono ?_;(case fa=>exact⟨gP.out.os,gP.out.tape,gP.out.output,gP.out.size,gP.out.block⟩);rintro e w5 ⟨rfl,jC⟩;have nA:=hid (show Fr [] w4 w5 from⟨jC.os,jC.tape,jC.output,jC.size,jC.block⟩);clear jC))
  all_goals (
   go_wp2
   go_meet
   exact⟨rfl,nA⟩)
 case rest =>
  obtain⟨rfl,nA⟩:=hcut;obtain⟨w5,qC⟩:∃w5,w5=wc:=⟨_,rfl⟩;rw[<-qC]at nA ⊢;have qZ:=hid (fO jD.out nA.out af);have HR5:=hid (fO HR4.out nA.out af);have jP:=hid (gP.out.trans nA.out);clear q0 q1 q2 s3 qC;have t1:=fN qZ.out (i:=1) (v:=.bool bk) rfl;have q0:=jP.out.cell P0.out af;have q3:=jP.out.cell P3.out af;have qb:=jP.out.cell CB.out af;have ac1:=hid (fun(Y:World) (hf:Fr [] w5 Y)=>ahc.out Y (jP.out.trans hf));have hwm:bk=true->IntKind.i64.wrap ((m:Int) - 1)=(c:Int):=by have h:=HM.out;intro hb;rw[ay hb]at h;rw[eT];omega
  have hwf:bk=false->m=c:=by have h:=HM.out;intro hb;rw[hb]at h;simpa using h
  have HWM:=hid hwm;have HWF:=hid hwf;clear hwm hwf;go_upto_if 27 with fail
  go_cut [5]from 8 to 99 (fun v wx=>v=.int .i64 (c:Nat)/\wx=w5)
  case first =>
   cases bk
   ·obtain rfl:=HWF.out rfl
    go_wp2;go_meet;exact⟨rfl,rfl⟩
   ·have hwm:=HWM.out rfl
    go_wp2;go_meet;exact⟨rfl,rfl⟩
  case rest =>
   obtain⟨rfl,hwc⟩:=hcut;obtain rfl:=hwc;clear t1;go_wp2_with fail;go_cut [6]from 8 to 99 (fun v wx=>v=.int .i64 (i:Nat)/\Hid (Fr [] wc wx))
   case first =>
    go_region_with (first
     | (go_at_call 103;refine(ac1.out _ ?fb).mono ?_;(case fb=>exact⟨rfl,rfl,rfl,ak _,fun _ _ _=>rfl⟩);rintro e w6 ⟨rfl,jo⟩;have jv:=hid (show Fr [] wc w6 from⟨jo.os,jo.tape,jo.output,jo.size,jo.block⟩);clear jo))
    all_goals (
     go_wp2
     go_meet
     exact⟨rfl,jv⟩)
   case rest =>
    obtain⟨rfl,jv⟩:=hcut;obtain⟨w6,nu⟩:∃w6,w6=wc:=⟨_,rfl⟩;rw[<-nu]at jv ⊢;have Ts:=hid (fO qZ.out jv.out af);have HR6:=hid (fO HR5.out jv.out af);have s_:=hid (jP.out.trans jv.out);clear q0 q3 qb nu;have t1:=fN Ts.out (i:=1) (v:=.bool bk) rfl;have q0:=s_.out.cell P0.out af;have q1:=s_.out.cell P1.out af;have q2:=s_.out.cell P2.out af;have q3:=s_.out.cell P3.out af;have qc:=s_.out.cell C2.out af;have ac2:=hid (ahd.out w6 s_.out);have ac3:=hid (fun(Y:World) (hf:Fr [] w6 Y)=>SA.out Y (s_.out.trans hf));go_wp2_with (first | (go_at_call 104;refine ac2.out.mono ?_;rintro e wz ⟨rfl,hwz⟩;obtain rfl:w6=wz:=hwz.symm));go_cut [61]from 8 to 99 (fun v wx=>v=.bool (bk != lf)/\Hid (Fr [] w6 wx))
    case first =>
     go_region_with (first
      | (go_at_call 105;refine(ac3.out _ ?fc).mono ?_;(case fc=>exact⟨rfl,rfl,rfl,ak _,fun _ _ _=>rfl⟩);rintro e w7 ⟨rfl,Jv⟩;have pg:=hid (show Fr [] w6 w7 from⟨Jv.os,Jv.tape,Jv.output,Jv.size,Jv.block⟩);have t2:=fN (fO Ts.out pg.out af) (i:=1) (v:=.bool bk) rfl;clear Jv))
     all_goals (
      go_wp2
      go_meet
      exact⟨rfl,pg⟩)
    case rest =>
     obtain⟨rfl,pg⟩:=hcut;obtain⟨w7,hw7⟩:∃w7,w7=wc:=⟨_,rfl⟩;rw[<-hw7]at pg ⊢;have Z9:=hid (fO HR6.out pg.out af);have m7:=hid (s_.out.trans pg.out);clear q0 q1 q2 q3 qc t1 hw7;have r0:=fN Z9.out (i:=0) (v:=.int .i64 0) rfl;have r1:=fN Z9.out (i:=1) (v:=.int .i64 0) rfl;have g0:=fT Z9.out 0;have g1:=fT Z9.out 1;by_cases hbl:bk=lf
     ·subst hbl
      have tK:=Us.out;rw[ay rfl]at tK;subst tK;have hb0:(bk != bk)=false:=by simp
      rw[hb0];clear hb0;go_wp2;refine eU (eW (t:=58) (fr:=(0,0)) rfl _ _ (w.heap.size+1) _ _ rfl (fP (fP Z9.out 0 _) 1 _) underlying58 rfl (by kernel_rfl)) rfl ?_;exact⟨rfl,Fr.fQ (Fr.fQ m7.out (by omega)) (by omega)⟩
     ·have tK:=Us.out
      rw[au hbl]at tK;have hb0:(bk != lf)=true:=by simpa using hbl
      rw[hb0];clear hb0;have hwk:IntKind.i64.wrap ((k:Int)+1)=((gp:Nat):Int):=by rw[eT];omega
      clear tK;go_wp2;refine eU (eW (t:=58) (fr:=(0,0)) rfl _ _ (w.heap.size+1) _ _ rfl (fP (fP Z9.out 0 _) 1 _) underlying58 rfl (by kernel_rfl)) rfl ?_;exact⟨rfl,Fr.fQ (Fr.fQ m7.out (by omega)) (by omega)⟩
end Go.Proofs.YtnakejhohdbfdaaGreatDoor

import Derived.Test.YtnakejhohdbfdacGreatDoorMbk
import Derived.Laws.ResultCell
set_option maxHeartbeats 4000000
set_option maxRecDepth 10000
namespace Go.Proofs.YtnakejhohdbfdacGreatDoor
open Go.RowKit j9 Lay pS Go.Proofs.Tryz
theorem G8 (B P:Nat)(Bd V X:List Int)(r:Int)(Ls:List Ln)(v0 v1 v2 vL:Value)(hs:List Value)(off:Int)(back:Bool)(g1 g2:Nat)(w:World)(h:LP w B P Bd V X r Ls v0 v1 v2 vL hs)(hr:-1<=r/\r<=1)(hi:g1<Ls.length)(hk2:g2<=(kF Ls g1).o.length)(hK:Ls.length<=400)(hlo:∀l∈Ls,l.o.length<=1000)
 (hg:∀Y,Fr [] w Y->Calls prog 62 #[.pointer (some ⟨P,0,none⟩),.agg #[.int .i64 off,.bool back]] Y fun e w'=>e=.returned (.agg #[.int .i64 (g1:Nat),.int .i64 (g2:Nat)])/\Fr [] Y w')
 (hn:∀line gap Y,Fr [] w Y->Calls prog 128 #[.pointer (some ⟨P,0,none⟩),.agg #[.int .i64 line,.int .i64 gap]] Y fun e w'=>e=.returned (.agg #[.int .i64 (ko Bd V Ls line gap).1,.bool (ko Bd V Ls line gap).2])/\Fr [] Y w') (R:Int × Bool)
 (hR:R=if 0<g2 then ko Bd V Ls (g1:Nat) ((g2:Int) - 1)else if 0<=(g1:Int) - r/\(g1:Int) - r<(Ls.length:Int)then ko Bd V Ls ((g1:Int) - r) ((kF Ls ((g1:Int) - r).toNat).o.length:Nat)else(off,back)) :
 Calls prog 154 #[.pointer (some ⟨P,0,none⟩),.agg #[.int .i64 off,.bool back]] w fun e w'=>e=.returned (.agg #[.int .i64 R.1,.bool R.2])/\Fr [] w w':=by
 obtain⟨gL,cL,DE⟩:=iQ (by omega) h.l;subst DE;obtain⟨U,hU,hnn⟩:=h.n
 have HLC:=hid (fun(i:Nat) (hi:i<Ls.length)=>show ∃aO cO,w.cell? ⟨gL,i * 4+2,none⟩=some (.slice aO (kF Ls i).o.length cO) by
  obtain⟨vO,vX,_,_,a3,_,a5,_⟩:=hnn i _ (qH hi)
  obtain⟨aO,cO,MU⟩:=iW a5
  subst MU
  exact⟨aO,cO,by rw[h.l.cellAt _ (by omega)];exact a3⟩)
 have hl1:=hlo _ (ny hi);have vN:=hid h.o;have za:=iO h.o;have Bf:=hid hg;have UJ:=hid hn;have HR:=hid hR;have hg2:g2<=1000:=by omega
 have s9:=hid (fun Y:World=>C9 (some ⟨gL,0,none⟩) Ls.length cL ((g1:Int) - r) Y (by omega) (by omega));obtain⟨K,hK'⟩:∃K,K=Ls.length:=⟨_,rfl⟩;rw[<-hK']at hi hK s9 vN HLC HR;obtain⟨ra,rb,G7⟩:∃ra rb,R=(ra,rb):=⟨_,_,rfl⟩;rw[G7]at HR ⊢;obtain⟨w2,hw2⟩:∃w2,w2=(w.alloc (.cells #[.int .i64 off,.bool back] 26)).alloc (.cells #[.int .i64 0,.bool false] 26):=⟨_,rfl⟩;have i_:=hid (show Fr [] w w2 by rw[hw2];exact((Fr.refl _ _).alloc _).alloc _);have jO:=hid (show w2.heap[w.heap.size]?=some (.cells #[.int .i64 off,.bool back] 26 (0,0)) by rw[hw2];exact iJ (iL w _) ((Fr.refl [] _).alloc _) aj)
 have HR2:=hid (show w2.heap[w.heap.size+1]?=some (.cells #[.int .i64 0,.bool false] 26 (0,0)) by
  have hs:(w.alloc (.cells #[.int .i64 off,.bool back] 26)).heap.size=w.heap.size+1:=by simp
  have h0:=iL (w.alloc (.cells #[.int .i64 off,.bool back] 26)) (.cells #[.int .i64 0,.bool false] 26)
  rw[hs]at h0
  rw[hw2];exact h0)
 clear h hg hn hR hnn hlo G7 hl1 hk2 hK';go_enter func154,ntmps154;have HW2:=hid hw2;clear hw2;go_wp2_with fail;rw[<-HW2.out];refine(Bf.out _ i_.out).mono ?_;rintro e w3 ⟨rfl,hf3⟩;obtain⟨w4,hw4⟩:∃w4,w4=w3.alloc (.cells #[.int .i64 (g1:Nat),.int .i64 (g2:Nat)] 28):=⟨_,rfl⟩;have jI:=hid (show Fr [] w w4 by rw[hw4];exact(i_.out.trans hf3).alloc _);have og:=hid (show Fr [] w2 w4 by rw[hw4];exact hf3.alloc _);have oI:=hid (show w4.heap[w3.heap.size]?=some (.cells #[.int .i64 (g1:Nat),.int .i64 (g2:Nat)] 28 (0,0)) by rw[hw4];exact iL w3 _);have DH:=hid hw4;have t0:=iG oI.out (i:=0) (v:=.int .i64 (g1:Nat)) rfl;have t1:=iG oI.out (i:=1) (v:=.int .i64 (g2:Nat)) rfl;have p3:=iG (iJ vN.out jI.out aj) (i:=3) (v:=.slice (some ⟨gL,0,none⟩) K cL) rfl;have p4:=iG (iJ vN.out jI.out aj) (i:=4) (v:=.int .i64 r) rfl;have hl4:=iO oI.out;clear hf3 hw4;by_cases hlt:0<g2
 ·have Rr:(0:Int)<(g2:Int):=by omega
  have HRR:=hid (show(ra,rb)=ko Bd V Ls (g1:Nat) ((g2:Int) - 1) by rw[HR.out,aE hlt]);have wU:=hid (fun(Y:World) (hf:Fr [] w Y)=>UJ.out (g1:Nat) ((g2:Int) - 1) Y hf);rw[<-HRR.out]at wU;dsimp only at wU;have hwk:IntKind.i64.wrap ((g2:Int) - 1)=(g2:Int) - 1:=by rw[fM];omega
  clear HRR HR;go_wp2_with fail;rw[<-DH.out];refine(wU.out w4 jI.out).mono ?_;rintro e w6 ⟨rfl,jJ⟩;have lu:=hid jJ;clear jJ;have kQ:=hid (iJ HR2.out (og.out.trans lu.out) aj);have r0:=iG kQ.out (i:=0) (v:=.int .i64 0) rfl;have r1:=iG kQ.out (i:=1) (v:=.bool false) rfl;have k0:=iH kQ.out 0;have k1:=iH kQ.out 1;go_wp2_with fail;refine fE (fH (t:=26) (fr:=(0,0)) rfl _ _ (w.heap.size+1) _ _ rfl (iI (iI kQ.out 0 _) 1 _) underlying26 rfl (by kernel_rfl)) rfl ?_;exact⟨rfl,Fr.iK (Fr.iK (jI.out.trans lu.out) (by omega)) (by omega)⟩
 ·have Rr:¬(0:Int)<(g2:Int):=by omega
  have YH:decide ((0:Int)<(g2:Int))=false:=by simpa using Rr
  by_cases hv:0<=(g1:Int) - r/\(g1:Int) - r<(K:Int)
  ·obtain⟨i2,hi2⟩:∃i2:Nat,((i2:Nat):Int)=(g1:Int) - r:=⟨((g1:Int) - r).toNat,by omega⟩
   have ab1:i2<K:=by omega
   obtain⟨aO,cO,hcO⟩:=HLC.out i2 ab1;have HCO:=hid hcO;have HRR:=hid (show(ra,rb)=ko Bd V Ls (i2:Nat) ((kF Ls i2).o.length:Nat) by rw[HR.out,ay hlt,aE hv,<-hi2,Int.toNat_natCast]);have wU:=hid (fun(Y:World) (hf:Fr [] w Y)=>UJ.out (i2:Nat) ((kF Ls i2).o.length:Nat) Y hf);rw[<-HRR.out]at wU;dsimp only at wU;rw[bQ hv,<-hi2]at s9;have hwr:IntKind.i64.wrap ((g1:Int) - r)=((i2:Nat):Int):=by rw[hi2,fM];omega
   have YG:=hid (fun(Y:World) (hf:Fr [] w Y)=>Em gL K cL i2 (kF Ls i2).o.length cO aO Y ab1 (hf.cell HCO.out aj));generalize (kF Ls i2).o.length=lo at *;clear HRR HR hv hi2 hcO;go_wp2_with fail;rw[<-DH.out];go_quiet (fail);obtain⟨wq,hwq⟩:∃wq,wq=w4.drewN nq:=⟨_,rfl⟩;rw[<-hwq];have JL:=hid (show Fr [] w4 wq by rw[hwq];exact jf _ _);have Rs:=hid (jI.out.trans JL.out);clear hwq t0 t1 p3 p4 hwr;have p3:=iG (iJ vN.out Rs.out aj) (i:=3) (v:=.slice (some ⟨gL,0,none⟩) K cL) rfl;go_wp2_with (first | (go_at_call 200;refine(s9.out _).mono ?_;rintro e wz ⟨rfl,hwz⟩;obtain rfl:wq=wz:=hwz.symm) | (go_at_call 201;refine(YG.out _ Rs.out).mono ?_;rintro e w5 ⟨rfl,kK⟩;have kD:=hid (JL.out.trans kK);have pF:=hid (jI.out.trans (JL.out.trans kK));clear kK) | (go_at_call 128;refine(wU.out _ pF.out).mono ?_;rintro e w6 ⟨rfl,jJ⟩;have lu:=hid (kD.out.trans jJ);clear jJ;have kQ:=hid (iJ HR2.out (og.out.trans lu.out) aj);have r0:=iG kQ.out (i:=0) (v:=.int .i64 0) rfl;have r1:=iG kQ.out (i:=1) (v:=.bool false) rfl;have k0:=iH kQ.out 0;have k1:=iH kQ.out 1));refine fE (fH (t:=26) (fr:=(0,0)) rfl _ _ (w.heap.size+1) _ _ rfl (iI (iI kQ.out 0 _) 1 _) underlying26 rfl (by kernel_rfl)) rfl ?_;exact⟨rfl,Fr.iK (Fr.iK (jI.out.trans lu.out) (by omega)) (by omega)⟩
  ·have HRR:=hid (show(ra,rb)=(off,back) by rw[HR.out,ay hlt,ay hv])
   obtain⟨rfl,rfl⟩:=Prod.mk.inj HRR.out;rw[bS hv]at s9;obtain⟨ln,hln⟩:∃ln,ln=(g1:Int) - r:=⟨_,rfl⟩;rw[<-hln]at s9;have hwr:IntKind.i64.wrap ((g1:Int) - r)=ln:=by rw[hln,fM];omega
   clear HRR HR hv hln;go_wp2_with fail;rw[<-DH.out];go_quiet (fail);obtain⟨wq,hwq⟩:∃wq,wq=w4.drewN nq:=⟨_,rfl⟩;rw[<-hwq];have JL:=hid (show Fr [] w4 wq by rw[hwq];exact jf _ _);have Rs:=hid (jI.out.trans JL.out);clear hwq t0 t1 p3 p4 hwr;have p3:=iG (iJ vN.out Rs.out aj) (i:=3) (v:=.slice (some ⟨gL,0,none⟩) K cL) rfl;have Nf:=hid (iJ jO.out (og.out.trans JL.out) aj);have s0:=iG Nf.out (i:=0) (v:=.int .i64 ra) rfl;have s1:=iG Nf.out (i:=1) (v:=.bool rb) rfl;have kQ:=hid (iJ HR2.out (og.out.trans JL.out) aj);have r0:=iG kQ.out (i:=0) (v:=.int .i64 0) rfl;have r1:=iG kQ.out (i:=1) (v:=.bool false) rfl;have k0:=iH kQ.out 0;have k1:=iH kQ.out 1;go_wp2_with (first | (go_at_call 200;refine(s9.out _).mono ?_;rintro e wz ⟨rfl,hwz⟩;obtain rfl:wq=wz:=hwz.symm));refine fE (fH (t:=26) (fr:=(0,0)) rfl _ _ (w.heap.size+1) _ _ rfl (iI (iI kQ.out 0 _) 1 _) underlying26 rfl (by kernel_rfl)) rfl ?_;exact⟨rfl,Fr.iK (Fr.iK Rs.out (by omega)) (by omega)⟩
theorem KS (a b:Int):∀w:World,(Instr.field 28 (.agg #[.int .i64 a,.int .i64 b]) 0).run prog w=.ok (.int .i64 a) w:=fun _=>by kernel_rfl
theorem UL (a b:Int)(x y:Value):∀w:World,(Instr.field 69 (.agg #[.int .i64 a,.int .i64 b,x,y]) 0).run prog w=.ok (.int .i64 a) w:=fun _=>by kernel_rfl
theorem UM (a b:Int)(x y:Value):∀w:World,(Instr.field 69 (.agg #[.int .i64 a,.int .i64 b,x,y]) 1).run prog w=.ok (.int .i64 b) w:=fun _=>by kernel_rfl
theorem C_ (B P:Nat)(Bd V X:List Int)(r:Int)(Ls:List Ln)(v0 v1 v2 vL:Value)(hs:List Value)(off UN goal:Int)(back:Bool)(g1 g2:Nat)(w:World)(h:LP w B P Bd V X r Ls v0 v1 v2 vL hs)(hr:-1<=UN/\UN<=1)(hi:g1<Ls.length)(hK:Ls.length<=400)
 (hg:∀Y,Fr [] w Y->Calls prog 62 #[.pointer (some ⟨P,0,none⟩),.agg #[.int .i64 off,.bool back]] Y fun e w'=>e=.returned (.agg #[.int .i64 (g1:Nat),.int .i64 (g2:Nat)])/\Fr [] Y w')
 (hn:∀line Y,Fr [] w Y->Calls prog 96 #[.pointer (some ⟨P,0,none⟩),.int .i64 line,.int .i64 goal] Y fun e w'=>e=.returned (.agg #[.int .i64 (vC Bd V Ls line goal).1,.bool (vC Bd V Ls line goal).2])/\Fr [] Y w') (R:Int × Bool)
 (hR:R=if 0<=(g1:Int)+UN/\(g1:Int)+UN<(Ls.length:Int)then vC Bd V Ls ((g1:Int)+UN) goal else(off,back)) :
 Calls prog 158 #[.pointer (some ⟨P,0,none⟩),.agg #[.int .i64 off,.bool back],.int .i64 UN,.int .i64 goal] w fun e w'=>e=.returned (.agg #[.int .i64 R.1,.bool R.2])/\Fr [] w w':=by
 obtain⟨gL,cL,DE⟩:=iQ (by omega) h.l;subst DE;have vN:=hid h.o;have za:=iO h.o;have Bf:=hid hg;have H63:=hid hn;have HR:=hid hR;have s9:=hid (fun Y:World=>C9 (some ⟨gL,0,none⟩) Ls.length cL ((g1:Int)+UN) Y (by omega) (by omega));generalize Ls.length=K at *;obtain⟨ra,rb,G7⟩:∃ra rb,R=(ra,rb):=⟨_,_,rfl⟩;rw[G7]at HR ⊢;obtain⟨ln,hln⟩:∃ln,ln=(g1:Int)+UN:=⟨_,rfl⟩;have hwr:IntKind.i64.wrap ((g1:Int)+UN)=ln:=by rw[hln,fM];omega
 rw[<-hln]at s9 HR;obtain⟨w2,hw2⟩:∃w2,w2=(w.alloc (.cells #[.int .i64 off,.bool back] 26)).alloc (.cells #[.int .i64 0,.bool false] 26):=⟨_,rfl⟩;have i_:=hid (show Fr [] w w2 by rw[hw2];exact((Fr.refl _ _).alloc _).alloc _);have jO:=hid (show w2.heap[w.heap.size]?=some (.cells #[.int .i64 off,.bool back] 26 (0,0)) by rw[hw2];exact iJ (iL w _) ((Fr.refl [] _).alloc _) aj)
 have HR2:=hid (show w2.heap[w.heap.size+1]?=some (.cells #[.int .i64 0,.bool false] 26 (0,0)) by
  have hs:(w.alloc (.cells #[.int .i64 off,.bool back] 26)).heap.size=w.heap.size+1:=by simp
  have h0:=iL (w.alloc (.cells #[.int .i64 off,.bool back] 26)) (.cells #[.int .i64 0,.bool false] 26)
  rw[hs]at h0
  rw[hw2];exact h0)
 clear h hg hn hR G7 hln;go_enter func158,ntmps158;have HW2:=hid hw2;clear hw2;go_wp2_with fail;rw[<-HW2.out];refine(Bf.out _ i_.out).mono ?_;rintro e w3 ⟨rfl,hf3⟩;have jQ:=hid (i_.out.trans hf3);have n_:=hid hf3;have p3:=iG (iJ vN.out jQ.out aj) (i:=3) (v:=.slice (some ⟨gL,0,none⟩) K cL) rfl;have lD:=hid (iJ jO.out hf3 aj);have s0:=iG lD.out (i:=0) (v:=.int .i64 off) rfl;have s1:=iG lD.out (i:=1) (v:=.bool back) rfl;have Kv:=KS (g1:Nat) (g2:Nat);clear hf3;by_cases hv:0<=ln/\ln<(K:Int)
 ·have HRR:=hid (show(ra,rb)=vC Bd V Ls ln goal by rw[HR.out,aE hv])
  have YI:=hid (fun(Y:World) (hf:Fr [] w Y)=>H63.out ln Y hf);rw[<-HRR.out]at YI;dsimp only at YI;rw[bQ hv]at s9;clear HRR HR hv;go_wp2_with (first | (go_at_call 200;refine(s9.out _).mono ?_;rintro e wz ⟨rfl,hwz⟩;obtain rfl:w3=wz:=hwz.symm) | (go_at_call 96;refine(YI.out _ jQ.out).mono ?_;rintro e w6 ⟨rfl,jJ⟩;have lu:=hid (n_.out.trans jJ);clear jJ;have kQ:=hid (iJ HR2.out lu.out aj);have r0:=iG kQ.out (i:=0) (v:=.int .i64 0) rfl;have r1:=iG kQ.out (i:=1) (v:=.bool false) rfl;have k0:=iH kQ.out 0;have k1:=iH kQ.out 1));refine fE (fH (t:=26) (fr:=(0,0)) rfl _ _ (w.heap.size+1) _ _ rfl (iI (iI kQ.out 0 _) 1 _) underlying26 rfl (by kernel_rfl)) rfl ?_;exact⟨rfl,Fr.iK (Fr.iK (i_.out.trans lu.out) (by omega)) (by omega)⟩
 ·have HRR:=hid (show(ra,rb)=(off,back) by rw[HR.out,ay hv])
  obtain⟨rfl,rfl⟩:=Prod.mk.inj HRR.out;rw[bS hv]at s9;clear HRR HR hv;have kQ:=hid (iJ HR2.out n_.out aj);have r0:=iG kQ.out (i:=0) (v:=.int .i64 0) rfl;have r1:=iG kQ.out (i:=1) (v:=.bool false) rfl;have k0:=iH kQ.out 0;have k1:=iH kQ.out 1;go_wp2_with (first | (go_at_call 200;refine(s9.out _).mono ?_;rintro e wz ⟨rfl,hwz⟩;obtain rfl:w3=wz:=hwz.symm));refine fE (fH (t:=26) (fr:=(0,0)) rfl _ _ (w.heap.size+1) _ _ rfl (iI (iI kQ.out 0 _) 1 _) underlying26 rfl (by kernel_rfl)) rfl ?_;exact⟨rfl,Fr.iK (Fr.iK jQ.out (by omega)) (by omega)⟩
theorem Da (B P:Nat)(Bd V X:List Int)(r:Int)(Ls:List Ln)(v0 v1 v2 vL:Value)(hs:List Value)(off:Int)(back:Bool)(g1 g2:Nat)(w:World)(h:LP w B P Bd V X r Ls v0 v1 v2 vL hs)(hi:g1<Ls.length)
 (hg:∀Y,Fr [] w Y->Calls prog 62 #[.pointer (some ⟨P,0,none⟩),.agg #[.int .i64 off,.bool back]] Y fun e w'=>e=.returned (.agg #[.int .i64 (g1:Nat),.int .i64 (g2:Nat)])/\Fr [] Y w') :
 Calls prog 157 #[.pointer (some ⟨P,0,none⟩),.agg #[.int .i64 off,.bool back]] w fun e w'=>∃vO vX,e=.returned (.agg #[.int .i64 (kF Ls g1).f,.int .i64 (kF Ls g1).t,vO,vX])/\Fr [] w w':=by
 obtain⟨gL,cL,DE⟩:=iQ (by omega) h.l;subst DE;obtain⟨U,hU,hnn⟩:=h.n;obtain⟨vO,vX,a1,a2,a3,a4,a5,a6,_⟩:=hnn g1 _ (qH hi);obtain⟨aO,cO,MU⟩:=iW a5;obtain⟨aX,cX,Jn⟩:=iW a6;subst MU Jn;have C0:=hid (show w.cell? ⟨gL,g1 * 4,none⟩=_ from(h.l.cellAt _ (by omega)).trans a1);have C1:=hid (show w.cell? ⟨gL,g1 * 4+1,none⟩=_ from(h.l.cellAt _ (by omega)).trans a2);have C2:=hid (show w.cell? ⟨gL,g1 * 4+2,none⟩=_ from(h.l.cellAt _ (by omega)).trans a3);have C3:=hid (show w.cell? ⟨gL,g1 * 4+3,none⟩=_ from(h.l.cellAt _ (by omega)).trans a4);have vN:=hid h.o;have za:=iO h.o;have Bf:=hid hg;have y_:(g1:Int)<(Ls.length:Int):=by omega
 generalize (kF Ls g1).f=f at *;generalize (kF Ls g1).t=t at *;generalize (kF Ls g1).o.length=lo at *;generalize (kF Ls g1).x.length=lx at *;generalize Ls.length=K at *;obtain⟨w2,hw2⟩:∃w2,w2=(w.alloc (.cells #[.int .i64 off,.bool back] 26)).alloc (.cells #[.int .i64 0,.int .i64 0,.slice none 0 0,.slice none 0 0] 69):=⟨_,rfl⟩;have i_:=hid (show Fr [] w w2 by rw[hw2];exact((Fr.refl _ _).alloc _).alloc _);have jO:=hid (show w2.heap[w.heap.size]?=some (.cells #[.int .i64 off,.bool back] 26 (0,0)) by rw[hw2];exact iJ (iL w _) ((Fr.refl [] _).alloc _) aj)
 have HR2:=hid (show w2.heap[w.heap.size+1]?=some (.cells #[.int .i64 0,.int .i64 0,.slice none 0 0,.slice none 0 0] 69 (0,0)) by
  have hs:(w.alloc (.cells #[.int .i64 off,.bool back] 26)).heap.size=w.heap.size+1:=by simp
  have h0:=iL (w.alloc (.cells #[.int .i64 off,.bool back] 26)) (.cells #[.int .i64 0,.int .i64 0,.slice none 0 0,.slice none 0 0] 69)
  rw[hs]at h0
  rw[hw2];exact h0)
 have Kv:=KS (g1:Nat) (g2:Nat);clear h hg hnn a1 a2 a3 a4 a5 a6;go_enter func157,ntmps157;have HW2:=hid hw2;clear hw2;go_wp2_with fail;rw[<-HW2.out];have p3:=iG (iJ vN.out i_.out aj) (i:=3) (v:=.slice (some ⟨gL,0,none⟩) K cL) rfl;have s0:=iG jO.out (i:=0) (v:=.int .i64 off) rfl;have s1:=iG jO.out (i:=1) (v:=.bool back) rfl
 go_region_with (first
  | (go_at_call 62;refine(Bf.out _ ?fa).mono ?_;(case fa=>exact⟨i_.out.os,i_.out.tape,i_.out.output,i_.out.size,i_.out.block⟩);rintro e w3 ⟨rfl,hf3⟩;have n_:=hid (show Fr [] w2 w3 from⟨hf3.os,hf3.tape,hf3.output,hf3.size,hf3.block⟩);have jQ:=hid (i_.out.trans n_.out);have q3:=iG (iJ vN.out jQ.out aj) (i:=3) (v:=.slice (some ⟨gL,0,none⟩) K cL) rfl;have c0:=jQ.out.cell C0.out aj;have c1:=jQ.out.cell C1.out aj;have c2:=jQ.out.cell C2.out aj;have c3:=jQ.out.cell C3.out aj;have HR3:=hid (iJ HR2.out n_.out aj);have r0:=iG HR3.out (i:=0) (v:=.int .i64 0) rfl;have r1:=iG HR3.out (i:=1) (v:=.int .i64 0) rfl;have r2:=iG HR3.out (i:=2) (v:=.slice none 0 0) rfl;have r3:=iG HR3.out (i:=3) (v:=.slice none 0 0) rfl;have k0:=iH HR3.out 0;have k1:=iH HR3.out 1;have k2:=iH HR3.out 2;have k3:=iH HR3.out 3;clear hf3))
 all_goals (
  go_wp2
  refine fE (fH (t:=69) (fr:=(0,0)) rfl _ _ (w.heap.size+1) _ _ rfl (iI (iI (iI (iI HR3.out 0 _) 1 _) 2 _) 3 _) underlying69 rfl (by kernel_rfl)) rfl ?_
  exact⟨_,_,rfl,Fr.iK (Fr.iK (Fr.iK (Fr.iK jQ.out (by omega)) (by omega)) (by omega)) (by omega)⟩)
theorem Ng (P:Nat)(off goal ra:Int)(back rb:Bool)(w:World)(h:∀Y,Fr [] w Y->Calls prog 154 #[.pointer (some ⟨P,0,none⟩),.agg #[.int .i64 off,.bool back]] Y fun e w'=>e=.returned (.agg #[.int .i64 ra,.bool rb])/\Fr [] Y w') :
 Calls prog 126 #[.pointer (some ⟨P,0,none⟩),.int .i64 0,.agg #[.int .i64 off,.bool back],.int .i64 goal] w fun e w'=>e=.returned (.agg #[.int .i64 ra,.bool rb])/\Fr [] w w':=by
 obtain⟨w2,hw2⟩:∃w2,w2=(w.alloc (.cells #[.int .i64 off,.bool back] 26)).alloc (.cells #[.int .i64 0,.bool false] 26):=⟨_,rfl⟩;have i_:=hid (show Fr [] w w2 by rw[hw2];exact((Fr.refl _ _).alloc _).alloc _);have jO:=hid (show w2.heap[w.heap.size]?=some (.cells #[.int .i64 off,.bool back] 26 (0,0)) by rw[hw2];exact iJ (iL w _) ((Fr.refl [] _).alloc _) aj)
 have HR2:=hid (show w2.heap[w.heap.size+1]?=some (.cells #[.int .i64 0,.bool false] 26 (0,0)) by
  have hs:(w.alloc (.cells #[.int .i64 off,.bool back] 26)).heap.size=w.heap.size+1:=by simp
  have h0:=iL (w.alloc (.cells #[.int .i64 off,.bool back] 26)) (.cells #[.int .i64 0,.bool false] 26)
  rw[hs]at h0
  rw[hw2];exact h0)
 have HC:=hid h;clear h;go_enter func126,ntmps126;have HW2:=hid hw2;clear hw2;go_wp2_with (first | (go_at_call 154;rw[<-HW2.out];refine(HC.out _ i_.out).mono ?_;rintro e w6 ⟨rfl,jJ⟩;have lu:=hid jJ;clear jJ;have kQ:=hid (iJ HR2.out lu.out aj);have r0:=iG kQ.out (i:=0) (v:=.int .i64 0) rfl;have r1:=iG kQ.out (i:=1) (v:=.bool false) rfl;have k0:=iH kQ.out 0;have k1:=iH kQ.out 1));refine fE (fH (t:=26) (fr:=(0,0)) rfl _ _ (w.heap.size+1) _ _ rfl (iI (iI kQ.out 0 _) 1 _) underlying26 rfl (by kernel_rfl)) rfl ?_;exact⟨rfl,Fr.iK (Fr.iK (i_.out.trans lu.out) (by omega)) (by omega)⟩
theorem Nh (P:Nat)(off goal ra:Int)(back rb:Bool)(w:World)(h:∀Y,Fr [] w Y->Calls prog 155 #[.pointer (some ⟨P,0,none⟩),.agg #[.int .i64 off,.bool back]] Y fun e w'=>e=.returned (.agg #[.int .i64 ra,.bool rb])/\Fr [] Y w') :
 Calls prog 126 #[.pointer (some ⟨P,0,none⟩),.int .i64 1,.agg #[.int .i64 off,.bool back],.int .i64 goal] w fun e w'=>e=.returned (.agg #[.int .i64 ra,.bool rb])/\Fr [] w w':=by
 obtain⟨w2,hw2⟩:∃w2,w2=(w.alloc (.cells #[.int .i64 off,.bool back] 26)).alloc (.cells #[.int .i64 0,.bool false] 26):=⟨_,rfl⟩;have i_:=hid (show Fr [] w w2 by rw[hw2];exact((Fr.refl _ _).alloc _).alloc _);have jO:=hid (show w2.heap[w.heap.size]?=some (.cells #[.int .i64 off,.bool back] 26 (0,0)) by rw[hw2];exact iJ (iL w _) ((Fr.refl [] _).alloc _) aj)
 have HR2:=hid (show w2.heap[w.heap.size+1]?=some (.cells #[.int .i64 0,.bool false] 26 (0,0)) by
  have hs:(w.alloc (.cells #[.int .i64 off,.bool back] 26)).heap.size=w.heap.size+1:=by simp
  have h0:=iL (w.alloc (.cells #[.int .i64 off,.bool back] 26)) (.cells #[.int .i64 0,.bool false] 26)
  rw[hs]at h0
  rw[hw2];exact h0)
 have HC:=hid h;clear h;go_enter func126,ntmps126;have HW2:=hid hw2;clear hw2;go_wp2_with (first | (go_at_call 155;rw[<-HW2.out];refine(HC.out _ i_.out).mono ?_;rintro e w6 ⟨rfl,jJ⟩;have lu:=hid jJ;clear jJ;have kQ:=hid (iJ HR2.out lu.out aj);have r0:=iG kQ.out (i:=0) (v:=.int .i64 0) rfl;have r1:=iG kQ.out (i:=1) (v:=.bool false) rfl;have k0:=iH kQ.out 0;have k1:=iH kQ.out 1));refine fE (fH (t:=26) (fr:=(0,0)) rfl _ _ (w.heap.size+1) _ _ rfl (iI (iI kQ.out 0 _) 1 _) underlying26 rfl (by kernel_rfl)) rfl ?_;exact⟨rfl,Fr.iK (Fr.iK (i_.out.trans lu.out) (by omega)) (by omega)⟩
theorem Ni (P:Nat)(off goal ra:Int)(back rb:Bool)(w:World)(h:∀Y,Fr [] w Y->Calls prog 158 #[.pointer (some ⟨P,0,none⟩),.agg #[.int .i64 off,.bool back],.int .i64 (-1),.int .i64 goal] Y fun e w'=>e=.returned (.agg #[.int .i64 ra,.bool rb])/\Fr [] Y w') :
 Calls prog 126 #[.pointer (some ⟨P,0,none⟩),.int .i64 6,.agg #[.int .i64 off,.bool back],.int .i64 goal] w fun e w'=>e=.returned (.agg #[.int .i64 ra,.bool rb])/\Fr [] w w':=by
 obtain⟨w2,hw2⟩:∃w2,w2=(w.alloc (.cells #[.int .i64 off,.bool back] 26)).alloc (.cells #[.int .i64 0,.bool false] 26):=⟨_,rfl⟩;have i_:=hid (show Fr [] w w2 by rw[hw2];exact((Fr.refl _ _).alloc _).alloc _);have jO:=hid (show w2.heap[w.heap.size]?=some (.cells #[.int .i64 off,.bool back] 26 (0,0)) by rw[hw2];exact iJ (iL w _) ((Fr.refl [] _).alloc _) aj)
 have HR2:=hid (show w2.heap[w.heap.size+1]?=some (.cells #[.int .i64 0,.bool false] 26 (0,0)) by
  have hs:(w.alloc (.cells #[.int .i64 off,.bool back] 26)).heap.size=w.heap.size+1:=by simp
  have h0:=iL (w.alloc (.cells #[.int .i64 off,.bool back] 26)) (.cells #[.int .i64 0,.bool false] 26)
  rw[hs]at h0
  rw[hw2];exact h0)
 have HC:=hid h;clear h;go_enter func126,ntmps126;have HW2:=hid hw2;clear hw2;go_wp2_with (first | (go_at_call 158;rw[<-HW2.out];refine(HC.out _ i_.out).mono ?_;rintro e w6 ⟨rfl,jJ⟩;have lu:=hid jJ;clear jJ;have kQ:=hid (iJ HR2.out lu.out aj);have r0:=iG kQ.out (i:=0) (v:=.int .i64 0) rfl;have r1:=iG kQ.out (i:=1) (v:=.bool false) rfl;have k0:=iH kQ.out 0;have k1:=iH kQ.out 1));refine fE (fH (t:=26) (fr:=(0,0)) rfl _ _ (w.heap.size+1) _ _ rfl (iI (iI kQ.out 0 _) 1 _) underlying26 rfl (by kernel_rfl)) rfl ?_;exact⟨rfl,Fr.iK (Fr.iK (i_.out.trans lu.out) (by omega)) (by omega)⟩
theorem Nj (P:Nat)(off goal ra:Int)(back rb:Bool)(w:World)(h:∀Y,Fr [] w Y->Calls prog 158 #[.pointer (some ⟨P,0,none⟩),.agg #[.int .i64 off,.bool back],.int .i64 1,.int .i64 goal] Y fun e w'=>e=.returned (.agg #[.int .i64 ra,.bool rb])/\Fr [] Y w') :
 Calls prog 126 #[.pointer (some ⟨P,0,none⟩),.int .i64 7,.agg #[.int .i64 off,.bool back],.int .i64 goal] w fun e w'=>e=.returned (.agg #[.int .i64 ra,.bool rb])/\Fr [] w w':=by
 obtain⟨w2,hw2⟩:∃w2,w2=(w.alloc (.cells #[.int .i64 off,.bool back] 26)).alloc (.cells #[.int .i64 0,.bool false] 26):=⟨_,rfl⟩;have i_:=hid (show Fr [] w w2 by rw[hw2];exact((Fr.refl _ _).alloc _).alloc _);have jO:=hid (show w2.heap[w.heap.size]?=some (.cells #[.int .i64 off,.bool back] 26 (0,0)) by rw[hw2];exact iJ (iL w _) ((Fr.refl [] _).alloc _) aj)
 have HR2:=hid (show w2.heap[w.heap.size+1]?=some (.cells #[.int .i64 0,.bool false] 26 (0,0)) by
  have hs:(w.alloc (.cells #[.int .i64 off,.bool back] 26)).heap.size=w.heap.size+1:=by simp
  have h0:=iL (w.alloc (.cells #[.int .i64 off,.bool back] 26)) (.cells #[.int .i64 0,.bool false] 26)
  rw[hs]at h0
  rw[hw2];exact h0)
 have HC:=hid h;clear h;go_enter func126,ntmps126;have HW2:=hid hw2;clear hw2;go_wp2_with (first | (go_at_call 158;rw[<-HW2.out];refine(HC.out _ i_.out).mono ?_;rintro e w6 ⟨rfl,jJ⟩;have lu:=hid jJ;clear jJ;have kQ:=hid (iJ HR2.out lu.out aj);have r0:=iG kQ.out (i:=0) (v:=.int .i64 0) rfl;have r1:=iG kQ.out (i:=1) (v:=.bool false) rfl;have k0:=iH kQ.out 0;have k1:=iH kQ.out 1));refine fE (fH (t:=26) (fr:=(0,0)) rfl _ _ (w.heap.size+1) _ _ rfl (iI (iI kQ.out 0 _) 1 _) underlying26 rfl (by kernel_rfl)) rfl ?_;exact⟨rfl,Fr.iK (Fr.iK (i_.out.trans lu.out) (by omega)) (by omega)⟩
theorem Nk (P:Nat)(d off goal:Int)(back:Bool)(w:World)(h:d<0\/7<d) :
 Calls prog 126 #[.pointer (some ⟨P,0,none⟩),.int .i64 d,.agg #[.int .i64 off,.bool back],.int .i64 goal] w fun e w'=>e=.returned (.agg #[.int .i64 off,.bool back])/\Fr [] w w':=by
 obtain⟨w2,hw2⟩:∃w2,w2=(w.alloc (.cells #[.int .i64 off,.bool back] 26)).alloc (.cells #[.int .i64 0,.bool false] 26):=⟨_,rfl⟩;have i_:=hid (show Fr [] w w2 by rw[hw2];exact((Fr.refl _ _).alloc _).alloc _);have jO:=hid (show w2.heap[w.heap.size]?=some (.cells #[.int .i64 off,.bool back] 26 (0,0)) by rw[hw2];exact iJ (iL w _) ((Fr.refl [] _).alloc _) aj)
 have HR2:=hid (show w2.heap[w.heap.size+1]?=some (.cells #[.int .i64 0,.bool false] 26 (0,0)) by
  have hs:(w.alloc (.cells #[.int .i64 off,.bool back] 26)).heap.size=w.heap.size+1:=by simp
  have h0:=iL (w.alloc (.cells #[.int .i64 off,.bool back] 26)) (.cells #[.int .i64 0,.bool false] 26)
  rw[hs]at h0
  rw[hw2];exact h0)
 have n0:(d == 0)=false:=by simp;omega
 have n1:(d == 1)=false:=by simp;omega
 have n2:(d == 2)=false:=by simp;omega
 have n3:(d == 3)=false:=by simp;omega
 have n4:(d == 4)=false:=by simp;omega
 have n5:(d == 5)=false:=by simp;omega
 have n6:(d == 6)=false:=by simp;omega
 have n7:(d == 7)=false:=by simp;omega
 clear h;go_enter func126,ntmps126;have HW2:=hid hw2;clear hw2;go_wp2_with fail;have HE:((w.alloc (.cells #[.int .i64 off,.bool back] 26)).alloc (.cells #[.int .i64 off,.bool back] 26)).heap[w.heap.size+1]?=some (.cells #[.int .i64 off,.bool back] 26 (0,0)):=by
  have hs:(w.alloc (.cells #[.int .i64 off,.bool back] 26)).heap.size=w.heap.size+1:=by simp
  have h0:=iL (w.alloc (.cells #[.int .i64 off,.bool back] 26)) (.cells #[.int .i64 off,.bool back] 26);rw[hs]at h0;exact h0
 refine fE (fH (t:=26) (fr:=(0,0)) rfl _ _ (w.heap.size+1) _ _ rfl HE underlying26 rfl (by kernel_rfl)) rfl ?_;exact⟨rfl,by(repeat(first | refine Fr.iK ?_ (by omega) | refine Fr.drewN ?_ _ | refine Fr.drew ?_ | with_reducible exact Fr.refl _ _ | refine Fr.alloc ?_ _))⟩
theorem Nl (P:Nat)(off goal x y ra:Int)(back rb:Bool)(w:World)(hl:∀Y,Fr [] w Y->Calls prog 157 #[.pointer (some ⟨P,0,none⟩),.agg #[.int .i64 off,.bool back]] Y fun e w'=>∃vO vX,e=.returned (.agg #[.int .i64 x,.int .i64 y,vO,vX])/\Fr [] Y w')
 (hp:∀Y,Fr [] w Y->Calls prog 97 #[.pointer (some ⟨P,0,none⟩),.agg #[.int .i64 x,.bool false]] Y fun e w'=>e=.returned (.agg #[.int .i64 ra,.bool rb])/\Fr [] Y w') :
 Calls prog 126 #[.pointer (some ⟨P,0,none⟩),.int .i64 4,.agg #[.int .i64 off,.bool back],.int .i64 goal] w fun e w'=>e=.returned (.agg #[.int .i64 ra,.bool rb])/\Fr [] w w':=by
 obtain⟨w2,hw2⟩:∃w2,w2=(w.alloc (.cells #[.int .i64 off,.bool back] 26)).alloc (.cells #[.int .i64 0,.bool false] 26):=⟨_,rfl⟩;have i_:=hid (show Fr [] w w2 by rw[hw2];exact((Fr.refl _ _).alloc _).alloc _);have jO:=hid (show w2.heap[w.heap.size]?=some (.cells #[.int .i64 off,.bool back] 26 (0,0)) by rw[hw2];exact iJ (iL w _) ((Fr.refl [] _).alloc _) aj)
 have HR2:=hid (show w2.heap[w.heap.size+1]?=some (.cells #[.int .i64 0,.bool false] 26 (0,0)) by
  have hs:(w.alloc (.cells #[.int .i64 off,.bool back] 26)).heap.size=w.heap.size+1:=by simp
  have h0:=iL (w.alloc (.cells #[.int .i64 off,.bool back] 26)) (.cells #[.int .i64 0,.bool false] 26)
  rw[hs]at h0
  rw[hw2];exact h0)
 have HL:=hid hl;have HP:=hid hp;clear hl hp;go_enter func126,ntmps126;have HW2:=hid hw2;clear hw2;go_wp2_with (first | (go_at_call 157;rw[<-HW2.out];refine(HL.out _ i_.out).mono ?_;rintro e w3 ⟨vO,vX,rfl,hf3⟩;have n_:=hid hf3;have Kv:=UL x y vO vX;clear hf3) | (go_at_call 97;refine(HP.out _ (i_.out.trans n_.out)).mono ?_;rintro e w6 ⟨rfl,jJ⟩;have lu:=hid (n_.out.trans jJ);clear jJ;have kQ:=hid (iJ HR2.out lu.out aj);have r0:=iG kQ.out (i:=0) (v:=.int .i64 0) rfl;have r1:=iG kQ.out (i:=1) (v:=.bool false) rfl;have k0:=iH kQ.out 0;have k1:=iH kQ.out 1));refine fE (fH (t:=26) (fr:=(0,0)) rfl _ _ (w.heap.size+1) _ _ rfl (iI (iI kQ.out 0 _) 1 _) underlying26 rfl (by kernel_rfl)) rfl ?_;exact⟨rfl,Fr.iK (Fr.iK (i_.out.trans lu.out) (by omega)) (by omega)⟩
theorem Nn (P:Nat)(off goal x y ra:Int)(back rb:Bool)(w:World)(hl:∀Y,Fr [] w Y->Calls prog 157 #[.pointer (some ⟨P,0,none⟩),.agg #[.int .i64 off,.bool back]] Y fun e w'=>∃vO vX,e=.returned (.agg #[.int .i64 x,.int .i64 y,vO,vX])/\Fr [] Y w')
 (hp:∀Y,Fr [] w Y->Calls prog 97 #[.pointer (some ⟨P,0,none⟩),.agg #[.int .i64 y,.bool true]] Y fun e w'=>e=.returned (.agg #[.int .i64 ra,.bool rb])/\Fr [] Y w') :
 Calls prog 126 #[.pointer (some ⟨P,0,none⟩),.int .i64 5,.agg #[.int .i64 off,.bool back],.int .i64 goal] w fun e w'=>e=.returned (.agg #[.int .i64 ra,.bool rb])/\Fr [] w w':=by
 obtain⟨w2,hw2⟩:∃w2,w2=(w.alloc (.cells #[.int .i64 off,.bool back] 26)).alloc (.cells #[.int .i64 0,.bool false] 26):=⟨_,rfl⟩;have i_:=hid (show Fr [] w w2 by rw[hw2];exact((Fr.refl _ _).alloc _).alloc _);have jO:=hid (show w2.heap[w.heap.size]?=some (.cells #[.int .i64 off,.bool back] 26 (0,0)) by rw[hw2];exact iJ (iL w _) ((Fr.refl [] _).alloc _) aj)
 have HR2:=hid (show w2.heap[w.heap.size+1]?=some (.cells #[.int .i64 0,.bool false] 26 (0,0)) by
  have hs:(w.alloc (.cells #[.int .i64 off,.bool back] 26)).heap.size=w.heap.size+1:=by simp
  have h0:=iL (w.alloc (.cells #[.int .i64 off,.bool back] 26)) (.cells #[.int .i64 0,.bool false] 26)
  rw[hs]at h0
  rw[hw2];exact h0)
 have HL:=hid hl;have HP:=hid hp;clear hl hp;go_enter func126,ntmps126;have HW2:=hid hw2;clear hw2;go_wp2_with (first | (go_at_call 157;rw[<-HW2.out];refine(HL.out _ i_.out).mono ?_;rintro e w3 ⟨vO,vX,rfl,hf3⟩;have n_:=hid hf3;have Kv:=UM x y vO vX;clear hf3) | (go_at_call 97;refine(HP.out _ (i_.out.trans n_.out)).mono ?_;rintro e w6 ⟨rfl,jJ⟩;have lu:=hid (n_.out.trans jJ);clear jJ;have kQ:=hid (iJ HR2.out lu.out aj);have r0:=iG kQ.out (i:=0) (v:=.int .i64 0) rfl;have r1:=iG kQ.out (i:=1) (v:=.bool false) rfl;have k0:=iH kQ.out 0;have k1:=iH kQ.out 1));refine fE (fH (t:=26) (fr:=(0,0)) rfl _ _ (w.heap.size+1) _ _ rfl (iI (iI kQ.out 0 _) 1 _) underlying26 rfl (by kernel_rfl)) rfl ?_;exact⟨rfl,Fr.iK (Fr.iK (i_.out.trans lu.out) (by omega)) (by omega)⟩
theorem Np (P gB cB nB:Nat)(off goal y ra:Int)(back rb:Bool)(c:Nat)(v1 v2 vL:Value)(r:Int)(w:World)(ho:w.heap[P]?=some (.cells #[.slice (some ⟨gB,0,none⟩) nB cB,v1,v2,vL,.int .i64 r] 148 (0,0)))(hc:c<=1000)
 (ha:∀Y,Fr [] w Y->Calls prog 100 #[.agg #[.slice (some ⟨gB,0,none⟩) nB cB,v1,v2],.int .i64 off] Y fun e w'=>e=.returned (.int .i64 (c:Nat))/\Fr [] Y w')
 (hb:∀Y,Fr [] w Y->Calls prog 156 #[.agg #[.slice (some ⟨gB,0,none⟩) nB cB,v1,v2],.int .i64 ((c:Int)+1)] Y fun e w'=>e=.returned (.int .i64 y)/\Fr [] Y w')
 (hp:∀Y,Fr [] w Y->Calls prog 97 #[.pointer (some ⟨P,0,none⟩),.agg #[.int .i64 y,.bool true]] Y fun e w'=>e=.returned (.agg #[.int .i64 ra,.bool rb])/\Fr [] Y w') :
 Calls prog 126 #[.pointer (some ⟨P,0,none⟩),.int .i64 2,.agg #[.int .i64 off,.bool back],.int .i64 goal] w fun e w'=>e=.returned (.agg #[.int .i64 ra,.bool rb])/\Fr [] w w':=by
 obtain⟨w2,hw2⟩:∃w2,w2=(w.alloc (.cells #[.int .i64 off,.bool back] 26)).alloc (.cells #[.int .i64 0,.bool false] 26):=⟨_,rfl⟩;have i_:=hid (show Fr [] w w2 by rw[hw2];exact((Fr.refl _ _).alloc _).alloc _);have jO:=hid (show w2.heap[w.heap.size]?=some (.cells #[.int .i64 off,.bool back] 26 (0,0)) by rw[hw2];exact iJ (iL w _) ((Fr.refl [] _).alloc _) aj)
 have HR2:=hid (show w2.heap[w.heap.size+1]?=some (.cells #[.int .i64 0,.bool false] 26 (0,0)) by
  have hs:(w.alloc (.cells #[.int .i64 off,.bool back] 26)).heap.size=w.heap.size+1:=by simp
  have h0:=iL (w.alloc (.cells #[.int .i64 off,.bool back] 26)) (.cells #[.int .i64 0,.bool false] 26)
  rw[hs]at h0
  rw[hw2];exact h0)
 have vN:=hid ho;have za:=iO ho;have HA:=hid ha;have HB:=hid hb;have HP:=hid hp;have hwc:IntKind.i64.wrap ((c:Int)+1)=(c:Int)+1:=by rw[fM];omega
 clear ho ha hb hp;go_enter func126,ntmps126;have HW2:=hid hw2;clear hw2;go_wp2_with fail;rw[<-HW2.out];have JM:=hid (iJ vN.out i_.out aj);have p0:=iG JM.out (i:=0) (v:=.slice (some ⟨gB,0,none⟩) nB cB) rfl;have p1:=iG JM.out (i:=1) (v:=v1) rfl;have p2:=iG JM.out (i:=2) (v:=v2) rfl;have s0:=iG jO.out (i:=0) (v:=.int .i64 off) rfl;have TG:=hid (And.intro p0 (And.intro p1 (And.intro p2 s0)));obtain⟨wa,Dz,HSA,DQ⟩:∃wa,Hid (Fr [] wa w2)/\Hid (wa.heap.size=w.heap.size+1)/\Hid (wa.cell? ⟨P,0,none⟩=some (.slice (some ⟨gB,0,none⟩) nB cB)/\wa.cell? ⟨P,1,none⟩=some v1/\wa.cell? ⟨P,2,none⟩=some v2/\wa.cell? ⟨w.heap.size,0,none⟩=some (.int .i64 off)) :=
  ⟨w.alloc (.cells #[.int .i64 off,.bool back] 26),hid (by rw[HW2.out];exact(Fr.refl [] _).alloc _),hid (by simp),hid ⟨((Fr.refl [] w).alloc _).cell (iG vN.out (i:=0) rfl) aj,((Fr.refl [] w).alloc _).cell (iG vN.out (i:=1) rfl) aj,((Fr.refl [] w).alloc _).cell (iG vN.out (i:=2) rfl) aj,iG (iL w _) (i:=0) rfl⟩⟩
 go_region_held (fun wz=>wz.cell? ⟨P,0,none⟩=some (.slice (some ⟨gB,0,none⟩) nB cB)/\wz.cell? ⟨P,1,none⟩=some v1/\wz.cell? ⟨P,2,none⟩=some v2/\wz.cell? ⟨w.heap.size,0,none⟩=some (.int .i64 off))
  (first | exact l9 | exact TG.out | exact⟨HKK.out.cell DQ.out.1 aj,HKK.out.cell DQ.out.2.1 aj,HKK.out.cell DQ.out.2.2.1 aj,HKK.out.cell DQ.out.2.2.2 aj⟩ | go_keep)
  (first
    | (go_at_call 100;refine(HA.out _ ?fa).mono ?_;(case fa=>exact i_.out.trans (s_ _ _ _ rfl rfl rfl rfl));rintro e w3 ⟨rfl,hf3⟩;have n_:=hid (show Fr [] w2 w3 from⟨hf3.os,hf3.tape,hf3.output,hf3.size,hf3.block⟩);have jQ:=hid (i_.out.trans n_.out);have l9:=And.intro (n_.out.cell p0 aj) (And.intro (n_.out.cell p1 aj) (And.intro (n_.out.cell p2 aj) (n_.out.cell s0 aj)));clear hf3)
    | (go_at_call 156;refine(HB.out _ ?fb).mono ?_;(case fb=>exact jQ.out.trans (s_ _ _ _ rfl rfl rfl rfl));rintro e w4 ⟨rfl,jG⟩;have og:=hid (show Fr [] w2 w4 from n_.out.trans ⟨jG.os,jG.tape,jG.output,jG.size,jG.block⟩);have jI:=hid (i_.out.trans og.out);have l9:=And.intro (og.out.cell p0 aj) (And.intro (og.out.cell p1 aj) (And.intro (og.out.cell p2 aj) (og.out.cell s0 aj)));clear jG)
    | (go_at_call 97;refine(HP.out _ ?fc).mono ?_;(case fc=>exact jI.out.trans (s_ _ _ _ rfl rfl rfl rfl));rintro e w6 ⟨rfl,jJ⟩;have lu:=hid (show Fr [] w2 w6 from og.out.trans ⟨jJ.os,jJ.tape,jJ.output,jJ.size,jJ.block⟩);have l9:=And.intro (lu.out.cell p0 aj) (And.intro (lu.out.cell p1 aj) (And.intro (lu.out.cell p2 aj) (lu.out.cell s0 aj)));clear jJ;have kQ:=hid (iJ HR2.out lu.out aj);have r0:=iG kQ.out (i:=0) (v:=.int .i64 0) rfl;have r1:=iG kQ.out (i:=1) (v:=.bool false) rfl;have k0:=iH kQ.out 0;have k1:=iH kQ.out 1;have HKK:=hid (Fr.iK (b:=w.heap.size+1) (i:=1) (v:=.bool rb) (Fr.iK (b:=w.heap.size+1) (i:=0) (v:=.int .i64 ra) (Dz.out.trans lu.out) (Nat.le_of_eq HSA.out)) (Nat.le_of_eq HSA.out))))
 all_goals (
  go_wp2
  refine fE (fH (t:=26) (fr:=(0,0)) rfl _ _ (w.heap.size+1) _ _ rfl (iI (iI kQ.out 0 _) 1 _) underlying26 rfl (by kernel_rfl)) rfl ?_
  exact⟨rfl,Fr.iK (Fr.iK (i_.out.trans lu.out) (by omega)) (by omega)⟩)
theorem Nq (P gB cB nB:Nat)(off goal y ra:Int)(back rb:Bool)(c:Nat)(v1 v2 vL:Value)(r:Int)(w:World)(ho:w.heap[P]?=some (.cells #[.slice (some ⟨gB,0,none⟩) nB cB,v1,v2,vL,.int .i64 r] 148 (0,0)))(hc:c<=1000)
 (ha:∀Y,Fr [] w Y->Calls prog 100 #[.agg #[.slice (some ⟨gB,0,none⟩) nB cB,v1,v2],.int .i64 off] Y fun e w'=>e=.returned (.int .i64 (c:Nat))/\Fr [] Y w')
 (hb:∀Y,Fr [] w Y->Calls prog 156 #[.agg #[.slice (some ⟨gB,0,none⟩) nB cB,v1,v2],.int .i64 ((c:Int) - 1)] Y fun e w'=>e=.returned (.int .i64 y)/\Fr [] Y w')
 (hp:∀Y,Fr [] w Y->Calls prog 97 #[.pointer (some ⟨P,0,none⟩),.agg #[.int .i64 y,.bool false]] Y fun e w'=>e=.returned (.agg #[.int .i64 ra,.bool rb])/\Fr [] Y w') :
 Calls prog 126 #[.pointer (some ⟨P,0,none⟩),.int .i64 3,.agg #[.int .i64 off,.bool back],.int .i64 goal] w fun e w'=>e=.returned (.agg #[.int .i64 ra,.bool rb])/\Fr [] w w':=by
 obtain⟨w2,hw2⟩:∃w2,w2=(w.alloc (.cells #[.int .i64 off,.bool back] 26)).alloc (.cells #[.int .i64 0,.bool false] 26):=⟨_,rfl⟩;have i_:=hid (show Fr [] w w2 by rw[hw2];exact((Fr.refl _ _).alloc _).alloc _);have jO:=hid (show w2.heap[w.heap.size]?=some (.cells #[.int .i64 off,.bool back] 26 (0,0)) by rw[hw2];exact iJ (iL w _) ((Fr.refl [] _).alloc _) aj)
 have HR2:=hid (show w2.heap[w.heap.size+1]?=some (.cells #[.int .i64 0,.bool false] 26 (0,0)) by
  have hs:(w.alloc (.cells #[.int .i64 off,.bool back] 26)).heap.size=w.heap.size+1:=by simp
  have h0:=iL (w.alloc (.cells #[.int .i64 off,.bool back] 26)) (.cells #[.int .i64 0,.bool false] 26)
  rw[hs]at h0
  rw[hw2];exact h0)
 have vN:=hid ho;have za:=iO ho;have HA:=hid ha;have HB:=hid hb;have HP:=hid hp;have hwc:IntKind.i64.wrap ((c:Int) - 1)=(c:Int) - 1:=by rw[fM];omega
 clear ho ha hb hp;go_enter func126,ntmps126;have HW2:=hid hw2;clear hw2;go_wp2_with fail;rw[<-HW2.out];have JM:=hid (iJ vN.out i_.out aj);have p0:=iG JM.out (i:=0) (v:=.slice (some ⟨gB,0,none⟩) nB cB) rfl;have p1:=iG JM.out (i:=1) (v:=v1) rfl;have p2:=iG JM.out (i:=2) (v:=v2) rfl;have s0:=iG jO.out (i:=0) (v:=.int .i64 off) rfl;have TG:=hid (And.intro p0 (And.intro p1 (And.intro p2 s0)));obtain⟨wa,Dz,HSA,DQ⟩:∃wa,Hid (Fr [] wa w2)/\Hid (wa.heap.size=w.heap.size+1)/\Hid (wa.cell? ⟨P,0,none⟩=some (.slice (some ⟨gB,0,none⟩) nB cB)/\wa.cell? ⟨P,1,none⟩=some v1/\wa.cell? ⟨P,2,none⟩=some v2/\wa.cell? ⟨w.heap.size,0,none⟩=some (.int .i64 off)) :=
  ⟨w.alloc (.cells #[.int .i64 off,.bool back] 26),hid (by rw[HW2.out];exact(Fr.refl [] _).alloc _),hid (by simp),hid ⟨((Fr.refl [] w).alloc _).cell (iG vN.out (i:=0) rfl) aj,((Fr.refl [] w).alloc _).cell (iG vN.out (i:=1) rfl) aj,((Fr.refl [] w).alloc _).cell (iG vN.out (i:=2) rfl) aj,iG (iL w _) (i:=0) rfl⟩⟩
 go_region_held (fun wz=>wz.cell? ⟨P,0,none⟩=some (.slice (some ⟨gB,0,none⟩) nB cB)/\wz.cell? ⟨P,1,none⟩=some v1/\wz.cell? ⟨P,2,none⟩=some v2/\wz.cell? ⟨w.heap.size,0,none⟩=some (.int .i64 off))
  (first | exact l9 | exact TG.out | exact⟨HKK.out.cell DQ.out.1 aj,HKK.out.cell DQ.out.2.1 aj,HKK.out.cell DQ.out.2.2.1 aj,HKK.out.cell DQ.out.2.2.2 aj⟩ | go_keep)
  (first
    | (go_at_call 100;refine(HA.out _ ?fa).mono ?_;(case fa=>exact i_.out.trans (s_ _ _ _ rfl rfl rfl rfl));rintro e w3 ⟨rfl,hf3⟩;have n_:=hid (show Fr [] w2 w3 from⟨hf3.os,hf3.tape,hf3.output,hf3.size,hf3.block⟩);have jQ:=hid (i_.out.trans n_.out);have l9:=And.intro (n_.out.cell p0 aj) (And.intro (n_.out.cell p1 aj) (And.intro (n_.out.cell p2 aj) (n_.out.cell s0 aj)));clear hf3)
    | (go_at_call 156;refine(HB.out _ ?fb).mono ?_;(case fb=>exact jQ.out.trans (s_ _ _ _ rfl rfl rfl rfl));rintro e w4 ⟨rfl,jG⟩;have og:=hid (show Fr [] w2 w4 from n_.out.trans ⟨jG.os,jG.tape,jG.output,jG.size,jG.block⟩);have jI:=hid (i_.out.trans og.out);have l9:=And.intro (og.out.cell p0 aj) (And.intro (og.out.cell p1 aj) (And.intro (og.out.cell p2 aj) (og.out.cell s0 aj)));clear jG)
    | (go_at_call 97;refine(HP.out _ ?fc).mono ?_;(case fc=>exact jI.out.trans (s_ _ _ _ rfl rfl rfl rfl));rintro e w6 ⟨rfl,jJ⟩;have lu:=hid (show Fr [] w2 w6 from og.out.trans ⟨jJ.os,jJ.tape,jJ.output,jJ.size,jJ.block⟩);have l9:=And.intro (lu.out.cell p0 aj) (And.intro (lu.out.cell p1 aj) (And.intro (lu.out.cell p2 aj) (lu.out.cell s0 aj)));clear jJ;have kQ:=hid (iJ HR2.out lu.out aj);have r0:=iG kQ.out (i:=0) (v:=.int .i64 0) rfl;have r1:=iG kQ.out (i:=1) (v:=.bool false) rfl;have k0:=iH kQ.out 0;have k1:=iH kQ.out 1;have HKK:=hid (Fr.iK (b:=w.heap.size+1) (i:=1) (v:=.bool rb) (Fr.iK (b:=w.heap.size+1) (i:=0) (v:=.int .i64 ra) (Dz.out.trans lu.out) (Nat.le_of_eq HSA.out)) (Nat.le_of_eq HSA.out))))
 all_goals (
  go_wp2
  refine fE (fH (t:=26) (fr:=(0,0)) rfl _ _ (w.heap.size+1) _ _ rfl (iI (iI kQ.out 0 _) 1 _) underlying26 rfl (by kernel_rfl)) rfl ?_
  exact⟨rfl,Fr.iK (Fr.iK (i_.out.trans lu.out) (by omega)) (by omega)⟩)
theorem iX {P:Program}{fn:Func}{p u:Tmp}{ty:TypeId}(h:fn.results=#[.cell p ty,.tmp u])(tmps:Array Value)(w:World)(g:Nat)(t:TypeId)(cs:Array Value)(fr:Nat × Nat)(d:TypeDesc)
 (hp:tmps.getD p undef=.pointer (some ⟨g,0,none⟩)) (hg:w.heap[g]?=some (.cells cs t fr))
 (hu:P.underlying ty=some d) (hd:(match d with | .struct _ | .array _ _=>true | _=>false)=true) (hi:(P.info? ty).map (·.size)=some cs.size) :
 (results fn tmps).run P w=.ok (.tuple #[.agg cs,tmps.getD u undef]) w:=by
 rw[results_cell_tmp h,hp];simp[asAddr,run_loadVar_row w g t ty cs fr d hg hu hd hi,Result.andThen]
theorem JN (P:Nat)(d off goal fo ta:Int)(back fb tb m:Bool)(w:World)(hm:m=!(decide (ta=fo/\tb=fb)))
 (hp:∀Y,Fr [] w Y->Calls prog 97 #[.pointer (some ⟨P,0,none⟩),.agg #[.int .i64 off,.bool back]] Y fun e w'=>e=.returned (.agg #[.int .i64 fo,.bool fb])/\Fr [] Y w')
 (ht:∀Y,Fr [] w Y->Calls prog 126 #[.pointer (some ⟨P,0,none⟩),.int .i64 d,.agg #[.int .i64 fo,.bool fb],.int .i64 goal] Y fun e w'=>e=.returned (.agg #[.int .i64 ta,.bool tb])/\Fr [] Y w') :
 Calls prog 95 #[.pointer (some ⟨P,0,none⟩),.int .i64 d,.agg #[.int .i64 off,.bool back],.int .i64 goal] w fun e w'=>e=.returned (.tuple #[.agg #[.int .i64 ta,.bool tb],.bool m])/\Fr [] w w':=by
 have H57:=hid hp;have afE:=hid ht;have HM:=hid hm;obtain⟨w2,hw2⟩:∃w2,w2=(w.alloc (.cells #[.int .i64 off,.bool back] 26)).alloc (.cells #[.int .i64 0,.bool false] 26):=⟨_,rfl⟩;have i_:=hid (show Fr [] w w2 by rw[hw2];exact((Fr.refl _ _).alloc _).alloc _)
 have HR2:=hid (show w2.heap[w.heap.size+1]?=some (.cells #[.int .i64 0,.bool false] 26 (0,0)) by
  have hs:(w.alloc (.cells #[.int .i64 off,.bool back] 26)).heap.size=w.heap.size+1:=by simp
  have h0:=iL (w.alloc (.cells #[.int .i64 off,.bool back] 26)) (.cells #[.int .i64 0,.bool false] 26)
  rw[hs]at h0
  rw[hw2];exact h0)
 have hs2:w2.heap.size=w.heap.size+2:=by rw[hw2];simp
 clear hp ht hm;go_enter func95,ntmps95;have HW2:=hid hw2;clear hw2;go_wp2_with fail;rw[<-HW2.out];refine(H57.out _ i_.out).mono ?_;rintro e w3 ⟨rfl,hf3⟩;obtain⟨w4,hw4⟩:∃w4,w4=w3.alloc (.cells #[.int .i64 fo,.bool fb] 26):=⟨_,rfl⟩;have og:=hid (show Fr [] w2 w4 by rw[hw4];exact hf3.alloc _);have jI:=hid (i_.out.trans og.out);have oI:=hid (show w4.heap[w3.heap.size]?=some (.cells #[.int .i64 fo,.bool fb] 26 (0,0)) by rw[hw4];exact iL w3 _);have hz3:=hf3.size;have hq3:¬w3.heap.size=w.heap.size+1:=by omega
 have ajP:¬w.heap.size+1=w3.heap.size:=by omega
 have hz4:w3.heap.size<=w4.heap.size:=by rw[hw4];simp
 have DH:=hid hw4;clear hf3 hw4;go_wp2_with fail;rw[<-DH.out];refine(afE.out _ jI.out).mono ?_;rintro e w5 ⟨rfl,kK⟩;obtain⟨w6,KJ⟩:∃w6,w6=w5.alloc (.cells #[.int .i64 ta,.bool tb] 26):=⟨_,rfl⟩;have lu:=hid (show Fr [] w4 w6 by rw[KJ];exact kK.alloc _);have Jo:=hid (show w6.heap[w5.heap.size]?=some (.cells #[.int .i64 ta,.bool tb] 26 (0,0)) by rw[KJ];exact iL w5 _);have AU:=kK.size;have hq5:¬w5.heap.size=w.heap.size+1:=by omega
 have ajQ:¬w.heap.size+1=w5.heap.size:=by omega
 clear hs2 hz3 hz4 AU;have HW6:=hid KJ;clear kK KJ;go_wp2_with fail;rw[<-HW6.out];have f0:=iG (iJ oI.out lu.out aj) (i:=0) (v:=.int .i64 fo) rfl;have f1:=iG (iJ oI.out lu.out aj) (i:=1) (v:=.bool fb) rfl;have t0:=iG Jo.out (i:=0) (v:=.int .i64 ta) rfl;have t1:=iG Jo.out (i:=1) (v:=.bool tb) rfl;have kQ:=hid (iJ HR2.out (og.out.trans lu.out) aj);have r0:=iG kQ.out (i:=0) (v:=.int .i64 0) rfl;have r1:=iG kQ.out (i:=1) (v:=.bool false) rfl;have k0:=iH kQ.out 0;have k1:=iH kQ.out 1;have HFz:=hid (jI.out.trans lu.out);by_cases ho:ta=fo
 ·by_cases hb:tb=fb
  ·obtain rfl:m=false:=by rw[HM.out];simp[ho,hb]
   subst ho;subst hb;go_region
   all_goals (
    go_wp2
    refine fE (iX (t:=26) (fr:=(0,0)) rfl _ _ (w.heap.size+1) _ _ rfl (iI (iI kQ.out 0 _) 1 _) underlying26 rfl (by kernel_rfl)) rfl ?_
    exact⟨rfl,(Fr.iK (b:=w.heap.size+1) (i:=1) (v:=.bool tb) (Fr.iK (b:=w.heap.size+1) (i:=0) (v:=.int .i64 ta) HFz.out (by omega)) (by omega)).trans (s_ _ _ _ rfl rfl rfl rfl)⟩)
  ·obtain rfl:m=true:=by rw[HM.out];simp[hb]
   subst ho;go_region
   all_goals (
    go_wp2
    refine fE (iX (t:=26) (fr:=(0,0)) rfl _ _ (w.heap.size+1) _ _ rfl (iI (iI kQ.out 0 _) 1 _) underlying26 rfl (by kernel_rfl)) rfl ?_
    exact⟨rfl,(Fr.iK (b:=w.heap.size+1) (i:=1) (v:=.bool tb) (Fr.iK (b:=w.heap.size+1) (i:=0) (v:=.int .i64 ta) HFz.out (by omega)) (by omega)).trans (s_ _ _ _ rfl rfl rfl rfl)⟩)
 ·obtain rfl:m=true:=by rw[HM.out];simp[ho]
  go_region
  all_goals (
   go_wp2
   refine fE (iX (t:=26) (fr:=(0,0)) rfl _ _ (w.heap.size+1) _ _ rfl (iI (iI kQ.out 0 _) 1 _) underlying26 rfl (by kernel_rfl)) rfl ?_
   exact⟨rfl,(Fr.iK (b:=w.heap.size+1) (i:=1) (v:=.bool tb) (Fr.iK (b:=w.heap.size+1) (i:=0) (v:=.int .i64 ta) HFz.out (by omega)) (by omega)).trans (s_ _ _ _ rfl rfl rfl rfl)⟩)
end Go.Proofs.YtnakejhohdbfdacGreatDoor

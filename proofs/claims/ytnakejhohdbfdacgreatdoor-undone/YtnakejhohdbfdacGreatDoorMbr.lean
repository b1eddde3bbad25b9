import Derived.Test.YtnakejhohdbfdacGreatDoorMbq
set_option maxHeartbeats 8000000
set_option maxRecDepth 10000
namespace Go.Proofs.YtnakejhohdbfdacGreatDoor.Cls.Dc
open Go.RowKit Dec BA pS Lay j9 Go.Proofs.Tryz
theorem U8 (s:ByteArray)(n off:Nat)(up:Bool)(hend:Dec.Ends s n)(hs:s.size<=100000) :
 ∃x:Int,∀w,Cls.TabAt w 0 jg.jr->Calls prog 21 #[.string s,.int .i64 ((off:Nat):Int),.bool up] w fun e w'=>e=.returned (.int .i64 x)/\Fr [] w w':=by
 have hr:=jW hend;obtain⟨k,hk⟩:=kO (min (max ((off:Nat):Int) 0) ((s.size:Nat):Int)) (bnd s n) hr.sorted;obtain⟨x,hx⟩:∃x,x=mY (bnd s n) (min (max ((off:Nat):Int) 0) ((s.size:Nat):Int)) up k:=⟨_,rfl⟩;refine⟨x,fun w ht=>?_⟩;have H:=hid (Cls.qV s w (by omega) ht);have HE:=hid hend
 have DD:=hid (fun(Y:World) (g cap:Nat) (hc:∀j,j<(bnd s n).length->Y.cell? ⟨g,j,none⟩=some (.int .i64 ((bnd s n).getD j 0)))=>show Calls prog 40 #[.slice (some ⟨g,0,none⟩) (bnd s n).length cap,.int .i64 ((off:Nat):Int),.bool up] Y fun e w'=>e=.returned (.int .i64 x)/\∃q,w'=Y.drewN q by
  have hbl:=Wr.mO hend
  have h1:=Cls.pz (bnd s n) _ hr ((off:Nat):Int) up k g cap Y (by omega) hk (by rw[hbl];have:=(jA s n).1;have:=Dec.lV s n;have:=hend.1;unfold cn;omega) hc
  rw[<-hx]at h1
  exact h1)
 have HL:=hid (show 0<(bnd s n).length from(jW hend).len);clear ht hend hr hk hx;generalize ((off:Nat):Int)=sn at *;go_enter func21,ntmps21;go_wp2_with fail;refine H.out.mono ?_;rintro e w1 ⟨n',v,he',rfl,sY,hb⟩;have e:=Dec.kW he' HE.out;subst e;obtain⟨g,cap,hv⟩:=jl HL.out sY;subst hv;have HC:=hid (DD.out w1 g cap (fun j hj=>by rw[sY.cellAt _ (by omega)];exact Wr.uf hj));have HB:=hid (Fr.of_below (S:=[]) hb);clear sY hb he' H DD HL;generalize (bnd s n').length=l at *;go_wp2_with fail;refine HC.out.mono ?_;rintro e w2 ⟨rfl,q,rfl⟩;go_wp2;go_ret;exact⟨rfl,HB.out.drewN _⟩
theorem JV (B D f u lo hi:Nat)(R ao fo:Int)(l nl:List Int)(ct:ByteArray)(ab fb up back:Bool)(us rs:List Mo)(w:World)(h:jY w B D R l ao ab fo fb us rs lo hi)(hfu:f<=u)(hu:u<=(tu l).size)(hnt:tu nl=(tu l).extract 0 f++ct++(tu l).extract u (tu l).size)(hN:Vt nl)(hct:ct.size<=100000) :
 Calls prog 28 #[.pointer (some ⟨D,0,none⟩),.agg #[.int .i64 (f:Nat),.int .i64 (u:Nat),.string ct,.bool up,.bool back]] w fun e w'=>e=.returned (.bool true)/\∃lR mg mV mX,jY w' B D R nl lR mg mV mX (yx us ⟨l,ao,ab,fo,fb⟩) [] w.heap.size w'.heap.size/\lM w w' B D:=by
 obtain⟨vB,Z,P,Bl,V,Ls,vU,vR,L,aim,goal,hD,hZ,_,hU,_,_,_,_⟩:=id h.x;obtain⟨t,ht⟩:∃t,t=tu l:=⟨_,rfl⟩;obtain⟨nt,Ny⟩:∃nt,nt=tu nl:=⟨_,rfl⟩;rw[<-ht]at hD hu;rw[<-ht,<-Ny]at hnt;obtain⟨sn,hsn⟩:=U8 nt nl.length (f+ct.size) up (by rw[Ny];exact hN.ends) (by rw[Ny];have:=hN.z;omega);have DD:=hid hsn;have HTT:=hid ht;have Fx:=hid Ny;obtain⟨wb,hwb⟩:∃wb,wb=w.alloc (.cells #[.int .i64 (f:Nat),.int .i64 (u:Nat),.string ct,.bool up,.bool back] 88):=⟨_,rfl⟩;have j8:=hid (show Fr [] w wb by rw[hwb];exact(Fr.refl [] w).alloc _);have nD:=hid (show wb.heap[w.heap.size]?=some (.cells #[.int .i64 (f:Nat),.int .i64 (u:Nat),.string ct,.bool up,.bool back] 88 (0,0)) by rw[hwb];exact iL w _);have HWS:=hid (show wb.heap.size=w.heap.size+1 by rw[hwb,fD]);have uz:=hid (iJ hD j8.out aj);have RA:=hid (iJ hZ j8.out aj);have Ww:=hid (iM hU j8.out);have hDl:=iO hD;have HH:=hid h;have HU0:=hid hU;have HN:=hid hN;have TA:(f:Int)<=(t.size:Int):=by omega
 have huI:(u:Int)<=(t.size:Int):=by omega
 have hft:f<=t.size:=by omega
 have hts:t.size<=400:=by rw[ht];exact h.t.z
 have hns:nt.size<=400:=by rw[Ny];exact hN.z
 have hnd:decide ((400:Int)<((nt.size:Nat):Int))=false:=by simp;omega
 have d4:=iG uz.out (i:=4) (v:=.string t) rfl;have c0:=iG nD.out (i:=0) (v:=.int .i64 (f:Nat)) rfl;have c1:=iG nD.out (i:=1) (v:=.int .i64 (u:Nat)) rfl;have c2:=iG nD.out (i:=2) (v:=.string ct) rfl;have zJ:=hid hnt;have hus:=h.n6;clear h hD hZ hU hN hnt hsn ht Ny;go_enter func28,ntmps28;go_wp2_with fail;rw[<-hwb];clear hwb;go_quiet (fail);obtain⟨w1,hw1⟩:∃w1,w1=wb.drewN nq:=⟨_,rfl⟩;have nH:=hid (show Fr [] wb w1 by rw[hw1];exact jf _ _);rw[<-hw1,<-zJ.out];clear hw1 d4 c0 c1 c2;have jc:=hid (j8.out.trans nH.out);have lT:=hid (iJ nD.out nH.out aj);have HD1:=hid (iJ uz.out nH.out aj);have HZ1:=hid (iJ RA.out nH.out aj);have pO:=hid (iM Ww.out nH.out);have HB1:=hid (show B<=w1.heap.size from aK HH.out.bw jc.out.size);have HDN:=hid (show ∀g,vU.ownBlock=some g->g≠D from fun g hg e=>own_ne pO.out HD1.out (fun c f h=>by cases h) (by rw[hg,e]));have akc:w.heap.size<w1.heap.size:=aM (iO nD.out) nH.out.size;obtain⟨SU,hSU⟩:∃SU,SU=vU.ownBlock.toList:=⟨_,rfl⟩
 have HSU:=hid (show ∀k∈SU,B<=k/\k<w.heap.size/\vU.ownBlock=some k from fun k hk=>by
  rw[hSU]at hk
  have e:vU.ownBlock=some k:=by
   cases hb:vU.ownBlock with
   | none=>rw[hb]at hk;cases hk
   | some g=>rw[hb]at hk;rw[ak.1 hk]
  have hlt:k<w.heap.size:=by
   have h1:=Ww.out.lt k e
   rcases cH k w.heap.size with q | q
   ·exact q
   ·exfalso
    have h2:k=w.heap.size:=by
     have h3:=h1.2
     have h4:=iO nD.out
     have h5:wb.heap.size=w.heap.size+1:=by
      have:=HWS.out
      exact this
     omega
    exact own_ne Ww.out nD.out (fun c f h=>by cases h) (by rw[e,h2])
  exact⟨(Ww.out.lt k e).1,hlt,e⟩)
 have HNM:=hid (show w.heap.size ∉ D :: SU from fun hm=>by
  rcases bA.1 hm with q | q
  ·have:=hDl;omega
  ·have:=(HSU.out _ q).2.1;omega)
 have Bf:=hid (fun(Y:World) (hf:Fr [] w1 Y)=>yu D Z P 2 10 20 R ao fo goal t vB vU vR ab fb aim Y (iJ HD1.out hf aj) (iJ HZ1.out hf aj));have H58:=hid (fun(Y:World) (hf:Fr [] w1 Y)=>JS D Z B us.length 2 10 20 R ao fo t t vB vU vR ab fb (qp us) Y (iJ HD1.out hf aj) (iM pO.out hf) (by omega) (K3 us) (aK HB1.out hf.size));rw[<-hSU]at H58;have YD:=hid hSU;clear hSU;go_wp2_with fail;go_cut []from 7 to 52 (fun wx=>∃RC,Hid (wx.heap[D]?=some (.cells (zH 2 10 20 R t vB Z RC (.slice none 0 0)) 85 (0,0)))/\Hid (wx.ownsRow B 116 5 RC (JR us.length) (Nu us.length (qp us) (Df t ao ab fo fb)))/\Hid (Fr (D :: SU) w1 wx))
 case first =>
  go_region_with (first
   | (go_at_call 59;refine(Bf.out _ ?fa).mono ?_;(case fa=>exact(Fr.refl [] w1).drew);rintro e w2 ⟨rfl,hf2⟩;have JG:=hid (show Fr [] w1 w2 from Fr.trans (Fr.refl [] w1).drew hf2);clear hf2)
   | (go_at_call 58;refine(H58.out _ ?fa).mono ?_;(case fa=>exact JG.out);rintro e w3 ⟨rfl,RC,hD3,Ho,_,hf3⟩;have KE:=hid hD3;have vI:=hid Ho;have Cz:=hid (show Fr (D :: SU) w1 w3 from Fr.trans (JG.out.mono (fun k hk=>absurd hk aj)) hf3);clear hD3 Ho hf3))
  all_goals (
   go_wp2
   go_meet
   exact⟨RC,KE,vI,Cz⟩)
 case rest =>
  obtain⟨RC,HD3,T_,n_⟩:=hcut;obtain⟨w3,hw3⟩:∃w3,w3=wc:=⟨_,rfl⟩;rw[<-hw3]at HD3 T_ n_ ⊢;have jQ:=hid (show Fr (D :: SU) w w3 from Fr.trans (jc.out.mono (fun k hk=>absurd hk aj)) n_.out);have lD:=hid (iJ lT.out n_.out HNM.out)
  have HDS:=hid (show ∀k∈D :: SU,9<k from fun k hk=>by
   have h9:=HH.out.b9
   rcases bA.1 hk with q | q
   ·have:=HH.out.bD;omega
   ·have:=(HSU.out _ q).1;omega)
  have acd:=hid (HH.out.g.fr jQ.out HDS.out);clear hw3;have c0:=iG lD.out (i:=0) (v:=.int .i64 (f:Nat)) rfl;have c2:=iG lD.out (i:=2) (v:=.string ct) rfl;have c3:=iG lD.out (i:=3) (v:=.bool up) rfl;have c4:=iG lD.out (i:=4) (v:=.bool back) rfl;have hwr:IntKind.i64.wrap ((f:Int)+((ct.size:Nat):Int))=(f:Int)+((ct.size:Nat):Int):=by rw[fM];omega
  have H21:=hid (fun(Y:World) (hf:Fr [] w3 Y)=>show Calls prog 21 #[.string nt,.int .i64 ((f:Int)+((ct.size:Nat):Int)),.bool up] Y fun e w'=>e=.returned (.int .i64 sn)/\Fr [] Y w' by have k:=DD.out Y (lB acd.out.f.t9 hf);rw[eA]at k;exact k);have akd:w.heap.size<w3.heap.size:=iO lD.out;go_wp2_with fail;go_cut [6]from 7 to 52 (fun v6 wx=>∃G,v6=.pointer (some ⟨G,0,none⟩)/\Hid (wx.heap[G]?=some (.cells #[.int .i64 sn,.bool back] 26 (0,0)))/\Hid (Fr [] w3 wx))
  case first =>
   have HK:=hid (fun(wz:World) (hf:Fr [] w3 wz)=>show wz.cell? ⟨w.heap.size,0,none⟩=some (.int .i64 (f:Nat))/\wz.cell? ⟨w.heap.size,2,none⟩=some (.string ct)/\wz.cell? ⟨w.heap.size,3,none⟩=some (.bool up)/\wz.cell? ⟨w.heap.size,4,none⟩=some (.bool back)from⟨hf.cell c0 aj,hf.cell c2 aj,hf.cell c3 aj,hf.cell c4 aj⟩);clear j8 nD uz RA Ww HH HN zJ nH jc lT HD1 HZ1 pO HB1 HDN HSU HNM Bf H58 YD HD3 T_ n_ jQ HDS acd lD HWS TA huI hft hnd hfu hu hct hDl DD HTT Fx hus;go_region_held3 (fun wz=>wz.cell? ⟨w.heap.size,0,none⟩=some (.int .i64 (f:Nat))/\wz.cell? ⟨w.heap.size,2,none⟩=some (.string ct)/\wz.cell? ⟨w.heap.size,3,none⟩=some (.bool up)/\wz.cell? ⟨w.heap.size,4,none⟩=some (.bool back)) (first | with_reducible exact l9 | (refine HK.out _ ?_;first | exact((Fr.refl [] w3).drew).alloc _ | exact((Fr.refl [] w3).alloc _).drew | exact DH.out.alloc _ | exact Fr.iK (Fr.iK DH.out (au _)) (au _) | exact Fr.iK (Fr.iK (DH.out.alloc _) DH.out.size) DH.out.size) | go_keep)
    (first
      | (go_at_call 21;refine(H21.out _ ?fa).mono ?_;(case fa=>first | exact(Fr.refl [] w3).drew | exact((Fr.refl [] w3).alloc _).drew | exact(Fr.refl [] w3).drew.alloc _);rintro e w4 ⟨rfl,jG⟩;have DH:=hid (show Fr [] w3 w4 from Fr.trans (by first | exact(Fr.refl [] w3).drew | exact((Fr.refl [] w3).alloc _).drew | exact(Fr.refl [] w3).drew.alloc _) jG);have l9:=HK.out _ DH.out;(try(have GP:w4.heap[w3.heap.size]?=some (.cells #[.int .i64 0,.bool false] 26 (0,0)):=iJ (iL w3.drew (.cells #[.int .i64 0,.bool false] 26)) jG aj;have HOG:=hid GP;have g0:=iG GP (i:=0) (v:=.int .i64 0) rfl;have g1:=iG GP (i:=1) (v:=.bool false) rfl;have k0:=iH GP 0;have k1:=iH GP 1;clear GP));clear jG))
   all_goals (
    go_wp2
    go_meet
    first
     | exact⟨_,rfl,hid (iI (iI HOG.out 0 _) 1 _),hid (Fr.iK (Fr.iK DH.out (au _)) (au _))⟩
     | exact⟨_,rfl,hid (iL w4 _),hid (DH.out.alloc _)⟩
     | exact⟨_,rfl,hid (iI (iI (iL w4 _) 0 _) 1 _),hid (Fr.iK (Fr.iK (DH.out.alloc _) DH.out.size) DH.out.size)⟩)
  case rest =>
   obtain⟨G,rfl,HOG,kD⟩:=hcut;obtain⟨w5,nK⟩:∃w5,w5=wc:=⟨_,rfl⟩;rw[<-nK]at HOG kD ⊢;have pF:=hid (show Fr (D :: SU) w w5 from jQ.out.trans (kD.out.mono (fun k hk=>absurd hk aj)));have HD5:=hid (iJ HD3.out kD.out aj);have HU5:=hid (iM T_.out kD.out)
   have HMD:=hid (show Mid w w5 B D R t (yx us ⟨l,ao,ab,fo,fb⟩) [] 0 from by
    refine⟨⟨vB,.pointer (some ⟨Z,0,none⟩),RC,.slice none 0 0,HD5.out,?_,fQ _ _ _ _,(fun g _ e=>by cases e),fun g _=>.inr (aN _)⟩,D :: SU,pF.out,fun k hk=>?_⟩
    ·have k:=HU5.out
     rw[Hi us ⟨l,ao,ab,fo,fb⟩,HTT.out]at k
     rw[<-YS]
     exact k
    ·rcases bA.1 hk with q | q
     ·exact⟨by have:=HH.out.bD;omega,.inl q⟩
     ·obtain⟨b1,b2,b3⟩:=HSU.out k q
      obtain⟨_,c,b4⟩:=yB HU0.out b3
      exact⟨b1,.inr ⟨c,_,b4⟩⟩)
   have hrl:(yx us ⟨l,ao,ab,fo,fb⟩).length<=6:=by rw[<-Hi];unfold JR;split <;> omega
   have U9:=hid (show Calls prog 45 #[.pointer (some ⟨D,0,none⟩),.agg #[.string nt,.int .i64 sn,.bool back,.int .i64 sn,.bool back]] w5 fun e w'=>e=.returned (.tuple #[])/\∃lR mg mV mX,jY w' B D R nl lR mg mV mX (yx us ⟨l,ao,ab,fo,fb⟩) [] w.heap.size w'.heap.size/\lM w w' B D by
    rw[Fx.out]
    refine(yA D B R sn sn t nl back back _ [] 0 w w5 HMD.out HH.out.g HH.out.bD HH.out.b9 hDl HH.out.r HN.out (fun m hm=>?_) (fun m hm=>by cases hm) (by simpa using hrl)).mono (fun e w' ⟨k1,k2,k3⟩=>⟨k1,_,_,_,_,k2,k3⟩)
    have hm':m∈us++[Mo.mk l ao ab fo fb]:=by
     unfold yx at hm
     split at hm
     ·exact List.mem_of_mem_tail hm
     ·exact hm
    rcases a_.1 hm' with q | q
    ·exact HH.out.mu m q
    ·rw[ak.1 q];exact HH.out.t)
   have g0:=iG HOG.out (i:=0) (v:=.int .i64 sn) rfl;have g1:=iG HOG.out (i:=1) (v:=.bool back) rfl;clear nK c0 c2 c3 c4 H21 hwr hus hrl;go_wp2_with fail;refine U9.out.mono ?_;rintro e w6 ⟨rfl,hx6⟩;have HX6:=hid hx6;clear hx6 U9 g0 g1;go_wp2;go_ret;exact⟨rfl,HX6.out⟩
theorem qJ (f u:Nat)(bk:Bool)(w:World)(h:f≠u):Calls prog 94 #[.int .i64 (f:Nat),.int .i64 (u:Nat),.bool bk] w fun e w'=>e=.returned (.iface 88 (.agg #[.int .i64 (f:Nat),.int .i64 (u:Nat),.string ⟨#[]⟩,.bool false,.bool bk]))/\w'=w:=by
 have hb:(((f:Nat):Int) == ((u:Nat):Int))=false:=by simp;omega
 have hb2:¬((f:Nat):Int)=((u:Nat):Int):=by omega
 clear h;go_enter func94,ntmps94;go_wp2;go_ret;exact⟨by simp,rfl⟩
theorem Dh (f:Nat)(bk:Bool)(w:World):Calls prog 94 #[.int .i64 (f:Nat),.int .i64 (f:Nat),.bool bk] w fun e w'=>e=.returned .nilIface/\w'=w:=by
 go_enter func94,ntmps94;go_wp2;go_ret;exact⟨rfl,rfl⟩
theorem Aw (B D m lo hi:Nat)(R ao fo:Int)(l:List Int)(c:ByteArray)(ab fb:Bool)(us rs:List Mo)(w:World)(h:jY w B D R l ao ab fo fb us rs lo hi)(hc:c.size<=1000000)(hm:Dec.Ends c m) :
 Calls prog 51 #[.pointer (some ⟨D,0,none⟩),.string c] w fun e w'=>e=.returned (.iface 88 (.agg #[.int .i64 (min ao fo),.int .i64 (max ao fo),.string (cln c m),.bool true,.bool true]))/\Fr [] w w':=by
 obtain⟨vB,Z,P,Bl,V,Ls,vU,vR,L,aim,goal,hD,hZ,_⟩:=id h.x;have FB:=hid (oH D Z P 2 10 20 R ao fo goal (tu l) vB vU vR ab fb aim w hD hZ);have Nz:=hid (fun(Y:World) (hf:Fr [] w Y)=>zA c m Y hc hm (lB h.g.f.t3 hf) (lB h.g.f.t4 hf));generalize cln c m=cc at *;generalize min ao fo=mn at *;generalize max ao fo=mx at *;clear h hD hZ hm;go_enter func51,ntmps51;go_wp2_with fail;refine FB.out.mono ?_;rintro e w1 ⟨rfl,hf1⟩;have jc:=hid hf1;have acf:=hid (Nz.out w1 hf1);clear hf1 FB Nz;go_wp2_with fail;refine acf.out.mono ?_;rintro e w2 ⟨rfl,hb2⟩;have i_:=hid (jc.out.trans (Fr.of_below hb2));clear hb2 acf;go_wp2;go_ret;exact⟨rfl,i_.out⟩
theorem K4 (l:List Int){x:Int}(hx:0<=x):∀k,best l x k<=x
 | 0=>hx
 | k+1=>by
   rw[best];split
   ·rename_i h;exact h
   ·exact K4 l hx k
theorem uY {s:ByteArray}{i j:Nat}(h:i<=j):Dec.pos s i<=Dec.pos s j:=by
 rcases aH h with h1 | h1
 ·exact b7 (Dec.kR s i j h1)
 ·rw[h1];exact au _
theorem Fm {l:List Int}(hl:Vt l){a b:Int}(ha:a∈bnd (tu l) l.length)(hb:b∈bnd (tu l) l.length):∃i j,i<=j/\j<=l.length/\min a b=((Dec.pos (tu l) i:Nat):Int)/\max a b=((Dec.pos (tu l) j:Nat):Int):=by
 obtain⟨i,hi,rfl⟩:=uX hl ha;obtain⟨j,hj,rfl⟩:=uX hl hb
 rcases Nat.le_total i j with h | h
 ·have:=uY (s:=tu l) h
  exact⟨i,j,h,hj,by omega,by omega⟩
 ·have:=uY (s:=tu l) h
  exact⟨j,i,h,hi,by omega,by omega⟩
theorem jY.sel {w:World}{B D lo hi:Nat}{R ao fo:Int}{l:List Int}{ab fb:Bool}{us rs:List Mo}(h:jY w B D R l ao ab fo fb us rs lo hi):ao∈bnd (tu l) l.length/\fo∈bnd (tu l) l.length :=
 ⟨KZ (jW h.t.ends) h.pa,KZ (jW h.t.ends) h.pf⟩
theorem Hp {l:List Int}{z x:Int}{k:Nat}(h:jN l z)(up:Bool)(hc:Cut l x k)(hx:0<=x/\x<=z):mY l x up k∈l/\(up=false->mY l x up k<=x)/\(up=true->x<=mY l x up k):=by
 have hk:k<l.length:=h.Ot hc (by omega);have hg:∀i,i<l.length->l.getD i 0∈l:=fun i hi=>by simp[List.getD,hi]
 cases up
 ·have e:=zC h hc hx.1
  refine⟨?_,fun _=>by rw[<-e];exact K4 l hx.1 _,fun h=>by cases h⟩;obtain⟨j,hj,e2⟩:=rW h x l.length (au _);rw[<-e,<-e2];exact Be hj
 ·unfold mY
  rw[Bool.or_true,aE rfl];exact⟨hg k hk,(fun h=>by cases h),fun _=>hc.2.2 k (au _) hk⟩
theorem U_ (s:ByteArray)(n:Nat)(u:Int)(hend:Dec.Ends s n)(hs:s.size<=100000)(hu:0<=u/\u<=((s.size:Nat):Int)):∃x:Int,x∈bnd s n/\x<=u/\∀(g cap:Nat) (w:World),(∀j,j<(bnd s n).length->w.cell? ⟨g,j,none⟩=some (.int .i64 ((bnd s n).getD j 0)))->Calls prog 47 #[.slice (some ⟨g,0,none⟩) (bnd s n).length cap,.int .i64 u] w fun e w'=>e=.returned (.int .i64 x)/\Fr [] w w':=by
 have hr:=jW hend;obtain⟨k,hk⟩:=kO (min (max (u - 1) 0) ((s.size:Nat):Int)) (bnd s n) hr.sorted;obtain⟨x,hx⟩:∃x,x=mY (bnd s n) (min (max (u - 1) 0) ((s.size:Nat):Int)) false k:=⟨_,rfl⟩;obtain⟨m1,m2,m3⟩:=Hp hr false hk (by omega);rw[<-hx]at m1 m2 m3;refine⟨x,m1,by have:=m2 rfl;omega,fun g cap w hc=>?_⟩;have hbl:=Wr.mO hend;have h1:=Cls.pz (bnd s n) _ hr (u - 1) false k g cap w (by omega) hk (by rw[hbl];have:=(jA s n).1;have:=Dec.lV s n;have:=hend.1;unfold cn;omega) hc;rw[<-hx]at h1;have H:=hid h1;generalize (bnd s n).length=l at *;clear h1 hk hx hc hr hbl hend m1 m2 m3;go_enter func47,ntmps47;go_wp2_with fail;refine H.out.mono ?_;rintro e w1 ⟨rfl,q,rfl⟩;go_wp2;go_ret;exact⟨rfl,jf _ _⟩
theorem RO (s:ByteArray)(n:Nat)(u:Int)(hend:Dec.Ends s n)(hs:s.size<=100000)(hu:0<=u/\u<=((s.size:Nat):Int)):∃x:Int,x∈bnd s n/\u<=x/\∀(g cap:Nat) (w:World),(∀j,j<(bnd s n).length->w.cell? ⟨g,j,none⟩=some (.int .i64 ((bnd s n).getD j 0)))->Calls prog 50 #[.slice (some ⟨g,0,none⟩) (bnd s n).length cap,.int .i64 u] w fun e w'=>e=.returned (.int .i64 x)/\Fr [] w w':=by
 have hr:=jW hend;obtain⟨k,hk⟩:=kO (min (max (u+1) 0) ((s.size:Nat):Int)) (bnd s n) hr.sorted;obtain⟨x,hx⟩:∃x,x=mY (bnd s n) (min (max (u+1) 0) ((s.size:Nat):Int)) true k:=⟨_,rfl⟩;obtain⟨m1,m2,m3⟩:=Hp hr true hk (by omega);rw[<-hx]at m1 m2 m3;refine⟨x,m1,by have:=m3 rfl;omega,fun g cap w hc=>?_⟩;have hbl:=Wr.mO hend;have h1:=Cls.pz (bnd s n) _ hr (u+1) true k g cap w (by omega) hk (by rw[hbl];have:=(jA s n).1;have:=Dec.lV s n;have:=hend.1;unfold cn;omega) hc;rw[<-hx]at h1;have H:=hid h1;generalize (bnd s n).length=l at *;clear h1 hk hx hc hr hbl hend m1 m2 m3;go_enter func50,ntmps50;go_wp2_with fail;refine H.out.mono ?_;rintro e w1 ⟨rfl,q,rfl⟩;go_wp2;go_ret;exact⟨rfl,jf _ _⟩
theorem NA (B D lo hi:Nat)(R ao fo:Int)(l:List Int)(ab fb:Bool)(us rs:List Mo)(f u:Nat)(w:World)(h:jY w B D R l ao ab fo fb us rs lo hi)(hf:min ao fo=(f:Nat))(hu:max ao fo=(u:Nat))(hne:f≠u) :
 Calls prog 52 #[.pointer (some ⟨D,0,none⟩)] w fun e w'=>e=.returned (.iface 88 (.agg #[.int .i64 (f:Nat),.int .i64 (u:Nat),.string ⟨#[]⟩,.bool false,.bool true]))/\Fr [] w w':=by
 obtain⟨vB,Z,P,Bl,V,Ls,vU,vR,L,aim,goal,hD,hZ,_⟩:=id h.x;have FB:=hid (oH D Z P 2 10 20 R ao fo goal (tu l) vB vU vR ab fb aim w hD hZ);rw[hf,hu]at FB;have YT:=hid (fun(Y:World)=>qJ f u true Y hne);have hb:(((f:Nat):Int) == ((u:Nat):Int))=false:=by simp;omega
 have hb2:¬((f:Nat):Int)=((u:Nat):Int):=by omega
 have hb3:(f == u)=false:=by simpa using hne
 clear h hD hZ hf hu;go_enter func52,ntmps52;go_wp2_with fail;refine FB.out.mono ?_;rintro e w1 ⟨rfl,hf1⟩;have jc:=hid hf1;clear hf1 FB;go_wp2_with fail;refine(YT.out w1).mono ?_;rintro e w4 ⟨rfl,rfl⟩;go_wp2;go_ret;exact⟨rfl,jc.out⟩
theorem Et (B D lo hi:Nat)(R ao fo:Int)(l:List Int)(ab fb:Bool)(us rs:List Mo)(u:Nat)(v:Value)(x:Int)(w:World)(h:jY w B D R l ao ab fo fb us rs lo hi)(hf:min ao fo=(u:Nat))(hu:max ao fo=(u:Nat))
 (hx:∀(g cap:Nat) (w:World),(∀j,j<(bnd (tu l) l.length).length->w.cell? ⟨g,j,none⟩=some (.int .i64 ((bnd (tu l) l.length).getD j 0)))->Calls prog 47 #[.slice (some ⟨g,0,none⟩) (bnd (tu l) l.length).length cap,.int .i64 (u:Nat)] w fun e w'=>e=.returned (.int .i64 x)/\Fr [] w w')
 (hv:∀Y,Calls prog 94 #[.int .i64 x,.int .i64 (u:Nat),.bool true] Y fun e w'=>e=.returned v/\w'=Y) :
 Calls prog 52 #[.pointer (some ⟨D,0,none⟩)] w fun e w'=>e=.returned v/\Fr [] w w':=by
 obtain⟨vB,Z,P,Bl,V,Ls,vU,vR,L,aim,goal,hD,hZ,_⟩:=id h.x;have FB:=hid (oH D Z P 2 10 20 R ao fo goal (tu l) vB vU vR ab fb aim w hD hZ);rw[hf,hu]at FB;obtain⟨t,ht⟩:∃t,t=tu l:=⟨_,rfl⟩;obtain⟨n,hn⟩:∃n,n=l.length:=⟨_,rfl⟩;have HE:=hid (show Dec.Ends t n by rw[ht,hn];exact h.t.ends);have hs:t.size<=400:=by rw[ht];exact h.t.z
 rw[<-ht]at hD;rw[<-ht,<-hn]at hx;have HD:=hid hD;have H20:=hid (fun(Y:World) (hf:Fr [] w Y)=>Cls.qV t Y (by omega) (lB h.g.f.t9 hf));have HA:=hid hx;have YT:=hid hv;have Ug:=hid (show 0<(bnd t n).length from(jW HE.out).len);clear h hD hZ hf hu hx hv ht hn;go_enter func52,ntmps52;go_wp2_with fail;refine FB.out.mono ?_;rintro e w1 ⟨rfl,hf1⟩;have jc:=hid hf1;have HD1:=hid (iJ HD.out hf1 aj);have d4:=iG HD1.out (i:=4) (v:=.string t) rfl;have RQ:=hid (H20.out w1 hf1);clear hf1 FB H20;go_wp2_with fail;refine RQ.out.mono ?_;rintro e w2 ⟨n',v',he',rfl,jR,hb2⟩;have e:=Dec.kW he' HE.out;subst e;obtain⟨g,cap,hv⟩:=jl Ug.out jR;subst hv;have i_:=hid (jc.out.trans (Fr.of_below hb2));have HAb:=hid (HA.out g cap w2 (fun j hj=>by rw[jR.cellAt _ (by omega)];exact Wr.uf hj));clear jR hb2 he' RQ HA d4;generalize (bnd t n').length=bl at *;go_wp2_with fail;refine HAb.out.mono ?_;rintro e w3 ⟨rfl,hf3⟩;have jQ:=hid (i_.out.trans hf3);clear hf3 HAb;go_wp2_with fail;refine(YT.out w3).mono ?_;rintro e w4 ⟨rfl,rfl⟩;go_wp2;go_ret;exact⟨rfl,jQ.out⟩
theorem JW (B D lo hi:Nat)(R ao fo:Int)(l:List Int)(ab fb:Bool)(us rs:List Mo)(f u:Nat)(w:World)(h:jY w B D R l ao ab fo fb us rs lo hi)(hf:min ao fo=(f:Nat))(hu:max ao fo=(u:Nat))(hne:f≠u) :
 Calls prog 53 #[.pointer (some ⟨D,0,none⟩)] w fun e w'=>e=.returned (.iface 88 (.agg #[.int .i64 (f:Nat),.int .i64 (u:Nat),.string ⟨#[]⟩,.bool false,.bool true]))/\Fr [] w w':=by
 obtain⟨vB,Z,P,Bl,V,Ls,vU,vR,L,aim,goal,hD,hZ,_⟩:=id h.x;have FB:=hid (oH D Z P 2 10 20 R ao fo goal (tu l) vB vU vR ab fb aim w hD hZ);rw[hf,hu]at FB;have YT:=hid (fun(Y:World)=>qJ f u true Y hne);have hb:(((f:Nat):Int) == ((u:Nat):Int))=false:=by simp;omega
 have hb2:¬((f:Nat):Int)=((u:Nat):Int):=by omega
 have hb3:(f == u)=false:=by simpa using hne
 clear h hD hZ hf hu;go_enter func53,ntmps53;go_wp2_with fail;refine FB.out.mono ?_;rintro e w1 ⟨rfl,hf1⟩;have jc:=hid hf1;clear hf1 FB;go_wp2_with fail;refine(YT.out w1).mono ?_;rintro e w4 ⟨rfl,rfl⟩;go_wp2;go_ret;exact⟨rfl,jc.out⟩
theorem Di (B D lo hi:Nat)(R ao fo:Int)(l:List Int)(ab fb:Bool)(us rs:List Mo)(u:Nat)(v:Value)(x:Int)(w:World)(h:jY w B D R l ao ab fo fb us rs lo hi)(hf:min ao fo=(u:Nat))(hu:max ao fo=(u:Nat))
 (hx:∀(g cap:Nat) (w:World),(∀j,j<(bnd (tu l) l.length).length->w.cell? ⟨g,j,none⟩=some (.int .i64 ((bnd (tu l) l.length).getD j 0)))->Calls prog 50 #[.slice (some ⟨g,0,none⟩) (bnd (tu l) l.length).length cap,.int .i64 (u:Nat)] w fun e w'=>e=.returned (.int .i64 x)/\Fr [] w w')
 (hv:∀Y,Calls prog 94 #[.int .i64 (u:Nat),.int .i64 x,.bool false] Y fun e w'=>e=.returned v/\w'=Y) :
 Calls prog 53 #[.pointer (some ⟨D,0,none⟩)] w fun e w'=>e=.returned v/\Fr [] w w':=by
 obtain⟨vB,Z,P,Bl,V,Ls,vU,vR,L,aim,goal,hD,hZ,_⟩:=id h.x;have FB:=hid (oH D Z P 2 10 20 R ao fo goal (tu l) vB vU vR ab fb aim w hD hZ);rw[hf,hu]at FB;obtain⟨t,ht⟩:∃t,t=tu l:=⟨_,rfl⟩;obtain⟨n,hn⟩:∃n,n=l.length:=⟨_,rfl⟩;have HE:=hid (show Dec.Ends t n by rw[ht,hn];exact h.t.ends);have hs:t.size<=400:=by rw[ht];exact h.t.z
 rw[<-ht]at hD;rw[<-ht,<-hn]at hx;have HD:=hid hD;have H20:=hid (fun(Y:World) (hf:Fr [] w Y)=>Cls.qV t Y (by omega) (lB h.g.f.t9 hf));have HA:=hid hx;have YT:=hid hv;have Ug:=hid (show 0<(bnd t n).length from(jW HE.out).len);clear h hD hZ hf hu hx hv ht hn;go_enter func53,ntmps53;go_wp2_with fail;refine FB.out.mono ?_;rintro e w1 ⟨rfl,hf1⟩;have jc:=hid hf1;have HD1:=hid (iJ HD.out hf1 aj);have d4:=iG HD1.out (i:=4) (v:=.string t) rfl;have RQ:=hid (H20.out w1 hf1);clear hf1 FB H20;go_wp2_with fail;refine RQ.out.mono ?_;rintro e w2 ⟨n',v',he',rfl,jR,hb2⟩;have e:=Dec.kW he' HE.out;subst e;obtain⟨g,cap,hv⟩:=jl Ug.out jR;subst hv;have i_:=hid (jc.out.trans (Fr.of_below hb2));have HAb:=hid (HA.out g cap w2 (fun j hj=>by rw[jR.cellAt _ (by omega)];exact Wr.uf hj));clear jR hb2 he' RQ HA d4;generalize (bnd t n').length=bl at *;go_wp2_with fail;refine HAb.out.mono ?_;rintro e w3 ⟨rfl,hf3⟩;have jQ:=hid (i_.out.trans hf3);clear hf3 HAb;go_wp2_with fail;refine(YT.out w3).mono ?_;rintro e w4 ⟨rfl,rfl⟩;go_wp2;go_ret;exact⟨rfl,jQ.out⟩
abbrev opC (d:Int)(ext:Bool)(a x:Int)(bk:Bool)(c:ByteArray):Array Value:=#[.int .i64 d,.bool ext,.int .i64 a,.int .i64 x,.bool bk,.string c]
theorem Hq (D:Nat)(ext bk:Bool)(a x:Int)(c:ByteArray)(v:Value)(w:World)(h:∀Y,Fr [] w Y->Calls prog 51 #[.pointer (some ⟨D,0,none⟩),.string c] Y fun e w'=>e=.returned v/\Fr [] Y w') :
 Calls prog 25 #[.pointer (some ⟨D,0,none⟩),.agg (opC 11 ext a x bk c)] w fun e w'=>e=.returned v/\Fr [] w w':=by
 obtain⟨wb,hwb⟩:∃wb,wb=w.alloc (.cells (opC 11 ext a x bk c) 37):=⟨_,rfl⟩;have j8:=hid (show Fr [] w wb by rw[hwb];exact(Fr.refl [] w).alloc _);have H51:=hid (h wb j8.out);clear h;go_enter func25,ntmps25;go_wp2_with fail;rw[<-hwb];clear hwb;refine H51.out.mono ?_;rintro e w1 ⟨rfl,hf1⟩;have jc:=hid (j8.out.trans hf1);clear hf1 H51;go_wp2;go_ret;exact⟨rfl,jc.out⟩
theorem Dj (D:Nat)(ext bk:Bool)(a x:Int)(c:ByteArray)(v:Value)(w:World)(h:∀Y,Fr [] w Y->Calls prog 52 #[.pointer (some ⟨D,0,none⟩)] Y fun e w'=>e=.returned v/\Fr [] Y w') :
 Calls prog 25 #[.pointer (some ⟨D,0,none⟩),.agg (opC 12 ext a x bk c)] w fun e w'=>e=.returned v/\Fr [] w w':=by
 obtain⟨wb,hwb⟩:∃wb,wb=w.alloc (.cells (opC 12 ext a x bk c) 37):=⟨_,rfl⟩;have j8:=hid (show Fr [] w wb by rw[hwb];exact(Fr.refl [] w).alloc _);have H52:=hid (h wb j8.out);clear h;go_enter func25,ntmps25;go_wp2_with fail;rw[<-hwb];clear hwb;refine H52.out.mono ?_;rintro e w1 ⟨rfl,hf1⟩;have jc:=hid (j8.out.trans hf1);clear hf1 H52;go_wp2;go_ret;exact⟨rfl,jc.out⟩
theorem Dk (D:Nat)(ext bk:Bool)(a x:Int)(c:ByteArray)(v:Value)(w:World)(h:∀Y,Fr [] w Y->Calls prog 53 #[.pointer (some ⟨D,0,none⟩)] Y fun e w'=>e=.returned v/\Fr [] Y w') :
 Calls prog 25 #[.pointer (some ⟨D,0,none⟩),.agg (opC 13 ext a x bk c)] w fun e w'=>e=.returned v/\Fr [] w w':=by
 obtain⟨wb,hwb⟩:∃wb,wb=w.alloc (.cells (opC 13 ext a x bk c) 37):=⟨_,rfl⟩;have j8:=hid (show Fr [] w wb by rw[hwb];exact(Fr.refl [] w).alloc _);have H53:=hid (h wb j8.out);clear h;go_enter func25,ntmps25;go_wp2_with fail;rw[<-hwb];clear hwb;refine H53.out.mono ?_;rintro e w1 ⟨rfl,hf1⟩;have jc:=hid (j8.out.trans hf1);clear hf1 H53;go_wp2;go_ret;exact⟨rfl,jc.out⟩
theorem Eu (D:Nat)(ext bk:Bool)(a x:Int)(c:ByteArray)(w:World) :
 Calls prog 25 #[.pointer (some ⟨D,0,none⟩),.agg (opC 16 ext a x bk c)] w fun e w'=>e=.returned (.iface 91 (.agg #[]))/\Fr [] w w':=by
 have HF:=hid ((Fr.refl [] w).alloc (.cells (opC 16 ext a x bk c) 37));go_enter func25,ntmps25;go_wp2;go_ret;exact⟨rfl,HF.out⟩
theorem Ew (D:Nat)(ext bk:Bool)(a x:Int)(c:ByteArray)(w:World) :
 Calls prog 25 #[.pointer (some ⟨D,0,none⟩),.agg (opC 17 ext a x bk c)] w fun e w'=>e=.returned (.iface 92 (.agg #[]))/\Fr [] w w':=by
 have HF:=hid ((Fr.refl [] w).alloc (.cells (opC 17 ext a x bk c) 37));go_enter func25,ntmps25;go_wp2;go_ret;exact⟨rfl,HF.out⟩
theorem JX (D:Nat)(d:Int)(ext bk:Bool)(a x:Int)(c:ByteArray)(w:World)(hd:d<11\/17<d) :
 Calls prog 25 #[.pointer (some ⟨D,0,none⟩),.agg (opC d ext a x bk c)] w fun e w'=>e=.returned (.iface 78 (.agg (opC d ext a x bk c)))/\Fr [] w w':=by
 have b14:(d == 14)=false:=by simp;omega
 have c14:¬d=14:=by omega
 have b15:(d == 15)=false:=by simp;omega
 have c15:¬d=15:=by omega
 have b11:(d == 11)=false:=by simp;omega
 have c11:¬d=11:=by omega
 have b12:(d == 12)=false:=by simp;omega
 have c12:¬d=12:=by omega
 have b13:(d == 13)=false:=by simp;omega
 have c13:¬d=13:=by omega
 have b16:(d == 16)=false:=by simp;omega
 have c16:¬d=16:=by omega
 have b17:(d == 17)=false:=by simp;omega
 have c17:¬d=17:=by omega
 have HF:=hid ((Fr.refl [] w).alloc (.cells (opC d ext a x bk c) 37));clear hd;go_enter func25,ntmps25;go_wp2;go_ret;exact⟨rfl,HF.out⟩
theorem uc1 (v:Value)(w:World):(Instr.typeAssert (.iface 88 v) 76 78 true).run prog w=.ok (.tuple #[.agg #[.int .i64 0,.bool false,.int .i64 0,.int .i64 0,.bool false,.string ⟨#[]⟩],.bool false]) w:=by kernel_rfl
theorem uc2 (v:Value)(w:World):(Instr.typeAssert (.iface 88 v) 76 88 true).run prog w=.ok (.tuple #[v,.bool true]) w:=by kernel_rfl
theorem uu1 (v:Value)(w:World):(Instr.typeAssert (.iface 91 v) 76 78 true).run prog w=.ok (.tuple #[.agg #[.int .i64 0,.bool false,.int .i64 0,.int .i64 0,.bool false,.string ⟨#[]⟩],.bool false]) w:=by kernel_rfl
theorem uu2 (v:Value)(w:World):(Instr.typeAssert (.iface 91 v) 76 88 true).run prog w=.ok (.tuple #[.agg #[.int .i64 0,.int .i64 0,.string ⟨#[]⟩,.bool false,.bool false],.bool false]) w:=by kernel_rfl
theorem uu3 (v:Value)(w:World):(Instr.typeAssert (.iface 91 v) 76 91 true).run prog w=.ok (.tuple #[v,.bool true]) w:=by kernel_rfl
theorem ur1 (v:Value)(w:World):(Instr.typeAssert (.iface 92 v) 76 78 true).run prog w=.ok (.tuple #[.agg #[.int .i64 0,.bool false,.int .i64 0,.int .i64 0,.bool false,.string ⟨#[]⟩],.bool false]) w:=by kernel_rfl
theorem ur2 (v:Value)(w:World):(Instr.typeAssert (.iface 92 v) 76 88 true).run prog w=.ok (.tuple #[.agg #[.int .i64 0,.int .i64 0,.string ⟨#[]⟩,.bool false,.bool false],.bool false]) w:=by kernel_rfl
theorem ur3 (v:Value)(w:World):(Instr.typeAssert (.iface 92 v) 76 91 true).run prog w=.ok (.tuple #[.agg #[],.bool false]) w:=by kernel_rfl
theorem ur4 (v:Value)(w:World):(Instr.typeAssert (.iface 92 v) 76 92 true).run prog w=.ok (.tuple #[v,.bool true]) w:=by kernel_rfl
theorem um1 (v:Value)(w:World):(Instr.typeAssert (.iface 78 v) 76 78 true).run prog w=.ok (.tuple #[v,.bool true]) w:=by kernel_rfl
theorem un1 (w:World):(Instr.typeAssert .nilIface 76 78 true).run prog w=.ok (.tuple #[.agg #[.int .i64 0,.bool false,.int .i64 0,.int .i64 0,.bool false,.string ⟨#[]⟩],.bool false]) w:=by kernel_rfl
theorem un2 (w:World):(Instr.typeAssert .nilIface 76 88 true).run prog w=.ok (.tuple #[.agg #[.int .i64 0,.int .i64 0,.string ⟨#[]⟩,.bool false,.bool false],.bool false]) w:=by kernel_rfl
theorem un3 (w:World):(Instr.typeAssert .nilIface 76 91 true).run prog w=.ok (.tuple #[.agg #[],.bool false]) w:=by kernel_rfl
theorem un4 (w:World):(Instr.typeAssert .nilIface 76 92 true).run prog w=.ok (.tuple #[.agg #[],.bool false]) w:=by kernel_rfl
theorem AW (w:World)(x:Nat)(a b c d e g i j k l m n o p q r s:Value):Fr [x] w (((((((((((((((((w.setCell ⟨x,0,none⟩ a).setCell ⟨x,1,none⟩ b).setCell ⟨x,2,none⟩ c).setCell ⟨x,3,none⟩ d).setCell ⟨x,4,none⟩ e).setCell ⟨x,5,none⟩ g).setCell ⟨x,6,none⟩ i).setCell ⟨x,7,none⟩ j).setCell ⟨x,8,none⟩ k).setCell ⟨x,9,none⟩ l).setCell ⟨x,10,none⟩ m).setCell ⟨x,11,none⟩ n).setCell ⟨x,12,none⟩ o).setCell ⟨x,13,none⟩ p).setCell ⟨x,14,none⟩ q).setCell ⟨x,15,none⟩ r).setCell ⟨x,16,none⟩ s):=by
 iterate 17 refine Fr.set ?_ (ak.2 rfl) _
 exact Fr.refl _ _
def NB (t:ByteArray)(moved:Bool)(nU nR:Nat)(e:Ending):Prop:=∃(ao:Int) (ab:Bool) (fo:Int) (fb:Bool) (a1 a2 gx b1 b2 c1 c2:Int) (aS:Option Addr) (nS cS:Nat) (aB:Option Addr) (nB cB:Nat),e=.returned (.agg (AV ao ab fo fb a1 a2 gx b1 b2 c1 c2 aS nS cS moved t (.slice aB nB cB) nU nR))
def Il (w w':World)(B D:Nat)(R:Int)(l:List Int)(us rs:List Mo)(lo hi:Nat):Prop:=∃ao ab fo fb lo' hi',jY w' B D R l ao ab fo fb us rs lo' hi'/\(w.heap.size<=lo'\/lo<=lo'/\hi'<=hi)/\lM w w' B D
theorem Bn {w:World}{P Z Bl:Nat}{Bd V:List Int}{zt:Int}{Ls:List Ln}(ao fo goal:Int)(ab fb aim moved:Bool)(hZ:w.heap[Z]?=some (.cells (kL P ao ab fo fb aim goal) 134 (0,0)))(hL:Laid (yj w Z) Bl P Bd V zt Ls) :
 Calls prog 31 #[.pointer (some ⟨Z,0,none⟩),.bool moved] w fun e w'=>∃(a1 a2 gx b1 b2 c1 c2:Int) (aS:Option Addr) (nS cS:Nat),e=.returned (.agg (SL ao ab fo fb a1 a2 gx b1 b2 c1 c2 (.slice aS nS cS) moved))/\Fr [] w w':=by
 obtain⟨r,L⟩:=hL.lyt;refine(L.ans.state Z ao fo goal ab fb aim moved w (KW (b7 (iO hZ))) hZ).mono ?_;rintro e w' ⟨v,rfl,own,hf⟩;obtain⟨aS,cS,rfl,_⟩:=Wr.jo own;exact⟨_,_,_,_,_,_,_,aS,_,cS,rfl,hf⟩
theorem sS (B D lo hi:Nat)(R ao fo d a x:Int)(ab fb ext bk up back done:Bool)(l l':List Int)(us rs us' rs':List Mo)(oc ct:ByteArray)(f u:Nat)(w:World)(h:jY w B D R l ao ab fo fb us rs lo hi)
 (hd:∀Y,Fr [] w Y->Calls prog 25 #[.pointer (some ⟨D,0,none⟩),.agg (opC d ext a x bk oc)] Y fun e w'=>e=.returned (.iface 88 (.agg #[.int .i64 (f:Nat),.int .i64 (u:Nat),.string ct,.bool up,.bool back]))/\Fr [] Y w')
 (hc:∀Y,Fr [] w Y->Calls prog 28 #[.pointer (some ⟨D,0,none⟩),.agg #[.int .i64 (f:Nat),.int .i64 (u:Nat),.string ct,.bool up,.bool back]] Y fun e w'=>e=.returned (.bool done)/\Il Y w' B D R l' us' rs' lo hi) :
 Calls prog 15 #[.pointer (some ⟨D,0,none⟩),.agg (opC d ext a x bk oc)] w fun e w'=>NB (tu l') done us'.length rs'.length e/\Il w w' B D R l' us' rs' lo hi:=by
 obtain⟨wb,hwb⟩:∃wb,wb=(w.alloc (.cells (opC d ext a x bk oc) 37)).alloc (.cells #[.int .i64 0,.bool false,.int .i64 0,.bool false,.int .i64 0,.int .i64 0,.int .i64 0,.int .i64 0,.int .i64 0,.int .i64 0,.int .i64 0,.slice none 0 0,.bool false,.string ⟨#[]⟩,.slice none 0 0,.int .i64 0,.int .i64 0] 34):=⟨_,rfl⟩;have j8:=hid (show Fr [] w wb by rw[hwb];exact((Fr.refl [] w).alloc _).alloc _)
 have yF:=hid (show wb.heap[w.heap.size+1]?=some (.cells #[.int .i64 0,.bool false,.int .i64 0,.bool false,.int .i64 0,.int .i64 0,.int .i64 0,.int .i64 0,.int .i64 0,.int .i64 0,.int .i64 0,.slice none 0 0,.bool false,.string ⟨#[]⟩,.slice none 0 0,.int .i64 0,.int .i64 0] 34 (0,0)) by
  have h:=iL (w.alloc (.cells (opC d ext a x bk oc) 37)) (.cells #[.int .i64 0,.bool false,.int .i64 0,.bool false,.int .i64 0,.int .i64 0,.int .i64 0,.int .i64 0,.int .i64 0,.int .i64 0,.int .i64 0,.slice none 0 0,.bool false,.string ⟨#[]⟩,.slice none 0 0,.int .i64 0,.int .i64 0] 34)
  rw[<-hwb]at h;simpa using h)
 have hDl:D<w.heap.size:=by
  obtain⟨vB,Z,P,Bl,V,Ls,vU,vR,L,aim,goal,hD,_⟩:=h.x;exact iO hD
 have GZ:=hid h.bw;have Va:=hid h.hw;have Gm:=hid (hd wb j8.out);have Pg:=hid hc;have WC:=uc1 (.agg #[.int .i64 (f:Nat),.int .i64 (u:Nat),.string ct,.bool up,.bool back]);have Ws:=uc2 (.agg #[.int .i64 (f:Nat),.int .i64 (u:Nat),.string ct,.bool up,.bool back]);clear h hd hc;go_enter func15,ntmps15;go_wp2_with fail;rw[<-hwb];clear hwb;refine Gm.out.mono ?_;rintro e w1 ⟨rfl,hf1⟩;have jc:=hid (j8.out.trans hf1);have HR1:=hid (iJ yF.out hf1 aj);have i_:=hid (show Fr [] w (w1.alloc (.cells #[.int .i64 (f:Nat),.int .i64 (u:Nat),.string ct,.bool up,.bool back] 88))from jc.out.alloc _);have HR2:=hid (show(w1.alloc (.cells #[.int .i64 (f:Nat),.int .i64 (u:Nat),.string ct,.bool up,.bool back] 88)).heap[w.heap.size+1]?=some (.cells #[.int .i64 0,.bool false,.int .i64 0,.bool false,.int .i64 0,.int .i64 0,.int .i64 0,.int .i64 0,.int .i64 0,.int .i64 0,.int .i64 0,.slice none 0 0,.bool false,.string ⟨#[]⟩,.slice none 0 0,.int .i64 0,.int .i64 0] 34 (0,0))from iJ HR1.out ((Fr.refl [] w1).alloc _) aj);have Hr:=hid (Pg.out _ i_.out);clear hf1 Gm Pg;go_wp2_with fail;refine Hr.out.mono ?_;rintro e w3 ⟨rfl,hA⟩;clear Hr WC Ws;obtain⟨lR,mg,mV,mX,lo',hi',kS,hlh,kH⟩:=hA;obtain⟨vB,Z,P,Bl,V,Ls,vU,vR,L,aim,goal,hD3,hZ3,hL3,Ho,K5,_,sU,hLl,_⟩:=id kS.x;obtain⟨aU,cU,Vb,_⟩:=Wr.jo Ho;subst Vb;obtain⟨aR,cR,Pv,_⟩:=Wr.jo K5;subst Pv;obtain⟨aB,cB,Fo,_⟩:=Wr.jo sU;subst Fo;have rZ:=hid kS;have Vc:=hid hlh;have Dl:=hid ((lM.FA i_.out).trans kH);have HR3:=hid (kH.obj HR2.out (by omega) (by decide) (by decide));have HD3:=hid hD3;have E3:=hid sU;have d6:=iG HD3.out (i:=6) (v:=.pointer (some ⟨Z,0,none⟩)) rfl;have RR:=hid (Bn lR mV goal mg mX aim done hZ3 hL3);obtain⟨nt,hnt⟩:∃nt,nt=tu l':=⟨_,rfl⟩;rw[<-hnt]at HD3;have zJ:=hid hnt;obtain⟨nU,tB⟩:∃nU,nU=us'.length:=⟨_,rfl⟩;obtain⟨nR,hnR⟩:∃nR,nR=rs'.length:=⟨_,rfl⟩;rw[<-tB,<-hnR]at HD3;have FC:=hid tB;have D3:=hid hnR;clear kS kH hD3 hZ3 hL3 Ho K5 sU hlh hnt tB hnR;go_wp2_with fail;refine RR.out.mono ?_;rintro e w4 ⟨a1,a2,gx,b1,b2,c1,c2,aS,nS,cS,rfl,jG⟩;have og:=hid jG;have K6:=hid (uA D Z B L.length cB nU cU nR cR nS cS 2 10 20 R lR mV a1 a2 gx b1 b2 c1 c2 mg mX done nt aB aU aR aS L w4 (iJ HD3.out jG aj) (iM E3.out jG) (by omega));clear jG RR d6;go_wp2_with fail;refine K6.out.mono ?_;rintro e w5 ⟨vB5,rfl,qi,kK⟩;obtain⟨a5,c5,hv5,_⟩:=Wr.jo qi;subst hv5;have kD:=hid (og.out.trans kK);have je:=hid (iJ HR3.out kD.out aj);have r0:=iG je.out (i:=0) (v:=.int .i64 0) rfl;have k0:=iH je.out 0;have r1:=iG je.out (i:=1) (v:=.bool false) rfl;have k1:=iH je.out 1;have r2:=iG je.out (i:=2) (v:=.int .i64 0) rfl;have k2:=iH je.out 2;have r3:=iG je.out (i:=3) (v:=.bool false) rfl;have k3:=iH je.out 3;have r4:=iG je.out (i:=4) (v:=.int .i64 0) rfl;have k4:=iH je.out 4;have r5:=iG je.out (i:=5) (v:=.int .i64 0) rfl;have k5:=iH je.out 5;have r6:=iG je.out (i:=6) (v:=.int .i64 0) rfl;have k6:=iH je.out 6;have r7:=iG je.out (i:=7) (v:=.int .i64 0) rfl;have k7:=iH je.out 7;have r8:=iG je.out (i:=8) (v:=.int .i64 0) rfl;have k8:=iH je.out 8;have r9:=iG je.out (i:=9) (v:=.int .i64 0) rfl;have k9:=iH je.out 9;have Ig:=iG je.out (i:=10) (v:=.int .i64 0) rfl;have k10:=iH je.out 10;have Ih:=iG je.out (i:=11) (v:=.slice none 0 0) rfl;have k11:=iH je.out 11;have Ii:=iG je.out (i:=12) (v:=.bool false) rfl;have k12:=iH je.out 12;have U0:=iG je.out (i:=13) (v:=.string ⟨#[]⟩) rfl;have k13:=iH je.out 13;have ZR:=iG je.out (i:=14) (v:=.slice none 0 0) rfl;have k14:=iH je.out 14;have WB:=iG je.out (i:=15) (v:=.int .i64 0) rfl;have k15:=iH je.out 15;have r16:=iG je.out (i:=16) (v:=.int .i64 0) rfl;have k16:=iH je.out 16;clear qi kK K6;go_wp2;refine fE (fH (t:=34) (fr:=(0,0)) rfl _ _ (w.heap.size+1) _ _ rfl (iI (iI (iI (iI (iI (iI (iI (iI (iI (iI (iI (iI (iI (iI (iI (iI (iI je.out 0 _) 1 _) 2 _) 3 _) 4 _) 5 _) 6 _) 7 _) 8 _) 9 _) 10 _) 11 _) 12 _) 13 _) 14 _) 15 _) 16 _) underlying34 rfl (by kernel_rfl)) rfl ?_;have Vd:=hid (show 9<w.heap.size+1 by have h1:=rZ.out.b9;have h2:=GZ.out;omega);have hlt:=iO HR2.out;have hfs:=i_.out.size;have YU:=Va.out;have hlo:=Vc.out;refine⟨⟨lR,mg,mV,mX,a1,a2,gx,b1,b2,c1,c2,aS,nS,cS,a5,L.length,c5,?_⟩,lR,mg,mV,mX,lo',hi',(rZ.out.fr kD.out).ZS (AW w5 (w.heap.size+1) _ _ _ _ _ _ _ _ _ _ _ _ _ _ _ _ _) je.out (by omega) Vd.out,by omega,?_⟩
 ·rw[<-zJ.out,<-FC.out,<-D3.out]
  simp
 ·exact(Dl.out.trans (lM.FA kD.out)).own (AW w5 (w.heap.size+1) _ _ _ _ _ _ _ _ _ _ _ _ _ _ _ _ _) (by have:=GZ.out;omega)
end Go.Proofs.YtnakejhohdbfdacGreatDoor.Cls.Dc

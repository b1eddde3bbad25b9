import Derived.Test.YtnakejhohdbfdacGreatDoorMbu
set_option maxHeartbeats 16000000
set_option maxRecDepth 100000
namespace Go.Proofs.YtnakejhohdbfdacGreatDoor.Cls.Dc
open Go.RowKit Dec BA pS Lay j9 Go.Proofs.Tryz
theorem NG (t:ByteArray)(w:World)(ht:400<t.size):Calls prog 44 #[.string t,.int .i64 2,.agg #[.int .i64 10,.int .i64 20]] w fun e w'=>∃P,e=.returned (.iface 117 (.pointer (some ⟨P,0,none⟩)))/\w'.cell? ⟨P,0,none⟩=some (.int .i64 1)/\Fr [] w w':=by
 obtain⟨wb,hwb⟩:∃wb,wb=w.alloc (.cells #[.int .i64 10,.int .i64 20] 56):=⟨_,rfl⟩;have j8:=hid (show Fr [] w wb by rw[hwb];exact(Fr.refl [] w).alloc _);have H83:=hid (J1 t 2 wb ht);clear ht;go_enter func44,ntmps44;go_wp2_with fail;rw[<-hwb];clear hwb;refine H83.out.mono ?_;rintro e w1 ⟨rfl,rfl⟩;go_wp2;go_ret;exact⟨_,rfl,iG (iL wb (.cells #[.int .i64 1,.nilIface] 121)) rfl,j8.out.alloc _⟩
theorem NH (c:ByteArray)(m:Nat)(R:Int)(w:World)(hG:Gr w)(hm:Dec.Ends c m)(hc:c.size<=1000000)(hz:400<(tu (qI c m)).size) :
 Calls prog 23 #[.string c,.int .i64 2,.agg #[.int .i64 10,.int .i64 20],.int .i64 R] w fun e w'=>∃P,e=.returned (.tuple #[.pointer none,.iface 117 (.pointer (some ⟨P,0,none⟩))])/\w'.cell? ⟨P,0,none⟩=some (.int .i64 1)/\Fr [] w w':=by
 obtain⟨t,ht⟩:∃t,t=tu (qI c m):=⟨_,rfl⟩;obtain⟨wb,hwb⟩:∃wb,wb=w.alloc (.cells #[.int .i64 10,.int .i64 20] 56):=⟨_,rfl⟩;have j8:=hid (show Fr [] w wb by rw[hwb];exact(Fr.refl [] w).alloc _);have nD:=hid (show wb.heap[w.heap.size]?=some (.cells #[.int .i64 10,.int .i64 20] 56 (0,0)) by rw[hwb];exact iL w _)
 have Nz:=hid (show Calls prog 43 #[.string c] wb fun e w'=>e=.returned (.string t)/\Fr [] wb w' by
  have k:=zA c m wb hc hm (lB hG.f.t3 j8.out) (lB hG.f.t4 j8.out)
  rw[Dg,<-ht]at k
  exact k.mono (fun e w' ⟨k1,k2⟩=>⟨k1,Fr.of_below k2⟩))
 have H44:=hid (fun(Y:World)=>NG t Y (by rw[ht];exact hz));clear hG hm hz ht;go_enter func23,ntmps23;go_wp2_with fail;rw[<-hwb];clear hwb;refine Nz.out.mono ?_;rintro e w1 ⟨rfl,hf1⟩;have jc:=hid (j8.out.trans hf1);have lT:=hid (iJ nD.out hf1 aj);clear hf1 Nz;have m0:=iG lT.out (i:=0) (v:=.int .i64 10) rfl;have m1:=iG lT.out (i:=1) (v:=.int .i64 20) rfl;go_wp2_with fail;refine(H44.out w1).mono ?_;rintro e w2 ⟨P,rfl,hp,hf2⟩;have i_:=hid (jc.out.trans hf2);have HP:=hid hp;clear hf2 H44 m0 m1 hp;go_wp2;refine fE (results_tmp2 rfl _ _ _) rfl ?_;exact⟨P,rfl,HP.out,i_.out⟩
theorem NI (c:ByteArray)(m:Nat)(R:Int)(w:World)(hG:Gr w)(hm:Dec.Ends c m)(hc:c.size<=1000000)(hz:400<(tu (qI c m)).size) :
 Calls prog 14 #[.string c,.int .i64 2,.agg #[.int .i64 10,.int .i64 20],.int .i64 R] w fun e w'=>e=.returned (.tuple #[.pointer none,.int .i64 1])/\Fr [] w w':=by
 obtain⟨wb,hwb⟩:∃wb,wb=w.alloc (.cells #[.int .i64 10,.int .i64 20] 56):=⟨_,rfl⟩;have j8:=hid (show Fr [] w wb by rw[hwb];exact(Fr.refl [] w).alloc _);have nD:=hid (show wb.heap[w.heap.size]?=some (.cells #[.int .i64 10,.int .i64 20] 56 (0,0)) by rw[hwb];exact iL w _);have LZ:=hid (NH c m R wb (hG.fr j8.out (fun k hk=>absurd hk aj)) hm hc hz);have H24:=hid (fun(Y:World) (hf:Fr [] w Y) (P:Nat) (hp:Y.cell? ⟨P,0,none⟩=some (.int .i64 1))=>J2 P 1 Y (hf.cell hG.f.e0 aj) hp);have m0:(w.alloc (.cells #[.int .i64 10,.int .i64 20] 56)).cell? ⟨w.heap.size,0,none⟩=some (.int .i64 10):=by rw[<-hwb];exact iG nD.out rfl
 have m1:(w.alloc (.cells #[.int .i64 10,.int .i64 20] 56)).cell? ⟨w.heap.size,1,none⟩=some (.int .i64 20):=by rw[<-hwb];exact iG nD.out rfl
 clear hG hm hz hc;go_enter func14,ntmps14;go_wp2_with fail;rw[<-hwb];clear hwb;refine LZ.out.mono ?_;rintro e w1 ⟨P,rfl,hp,hf1⟩;have jc:=hid (j8.out.trans hf1);have acv:=hid (H24.out w1 jc.out P hp);clear hf1 hp LZ H24 m0 m1;go_wp2_with fail;refine acv.out.mono ?_;rintro e w2 ⟨rfl,hf2⟩;have i_:=hid (jc.out.trans hf2);clear hf2 acv;go_wp2;refine fE (results_tmp2 rfl _ _ _) rfl ?_;exact⟨rfl,i_.out⟩
theorem J3 (c:ByteArray)(m:Nat)(R:Int)(w:World)(hG:Gr w)(hR:-9223372036854775808<=R/\R<=9223372036854775807)(hm:Dec.Ends c m)(hc:c.size<=1000000)(hz:(tu (qI c m)).size<=400)(h9:9<w.heap.size) :
 Calls prog 14 #[.string c,.int .i64 2,.agg #[.int .i64 10,.int .i64 20],.int .i64 R] w fun e w'=>∃Q D hi,e=.returned (.tuple #[.pointer (some ⟨Q,0,none⟩),.int .i64 0])/\w'.heap[Q]?=some (.cells #[.pointer (some ⟨D,0,none⟩)] 59 (0,0))/\Q≠D/\jY w' w.heap.size D R (qI c m) 0 false 0 false [] [] 0 hi/\Fr [] w w':=by
 obtain⟨wb,hwb⟩:∃wb,wb=w.alloc (.cells #[.int .i64 10,.int .i64 20] 56):=⟨_,rfl⟩;have j8:=hid (show Fr [] w wb by rw[hwb];exact(Fr.refl [] w).alloc _);have nD:=hid (show wb.heap[w.heap.size]?=some (.cells #[.int .i64 10,.int .i64 20] 56 (0,0)) by rw[hwb];exact iL w _);have hsz:=j8.out.size;have LZ:=hid (J0 c m R wb (hG.fr j8.out (fun k hk=>absurd hk aj)) hR hm hc hz (by omega));have m0:(w.alloc (.cells #[.int .i64 10,.int .i64 20] 56)).cell? ⟨w.heap.size,0,none⟩=some (.int .i64 10):=by rw[<-hwb];exact iG nD.out rfl
 have m1:(w.alloc (.cells #[.int .i64 10,.int .i64 20] 56)).cell? ⟨w.heap.size,1,none⟩=some (.int .i64 20):=by rw[<-hwb];exact iG nD.out rfl
 clear hG hm hz hc;go_enter func14,ntmps14;go_wp2_with fail;rw[<-hwb];clear hwb;refine LZ.out.mono ?_;rintro e w1 ⟨D,rfl,kS,hf1⟩;have rZ:=hid kS;have jc:=hid (j8.out.trans hf1);have hDl:D<w1.heap.size:=by
  obtain⟨vB,Z,P,Bl,V,Ls,vU,vR,L,aim,goal,hD,_⟩:=kS.x;exact iO hD
 clear kS hf1 LZ m0 m1;go_wp2;refine fE (results_tmp2 rfl _ _ _) rfl ?_;refine⟨w1.heap.size,D,w1.heap.size,rfl,iL w1 _,by omega,?_,jc.out.alloc _⟩;have h:=rZ.out.fr ((Fr.refl [] w1).alloc (.cells #[.pointer (some ⟨D,0,none⟩)] 59));obtain⟨vB,Z,P,Bl,V,Ls,vU,vR,L,aim,goal,q1,q2,q3,q4,q5,q6,q7,q8,q9,Wy,Wz,WA⟩:=h.x;exact⟨⟨vB,Z,P,Bl,V,Ls,vU,vR,L,aim,goal,q1,q2,q3,iU q4 hsz,iU q5 hsz,q6,iU q7 hsz,q8,q9,Wy,Wz,aK hsz WA⟩,h.pa,h.pf,h.t,h.mu,h.mr,h.n6,h.r,aK hsz h.bD,h9,h.g,aK hsz h.bw,h.hw⟩
theorem Dp (c:ByteArray)(m:Nat)(R:Int)(w:World)(hG:Gr w)(hR:-9223372036854775808<=R/\R<=9223372036854775807)(hm:Dec.Ends c m)(h9:9<w.heap.size)(hc:c.size<=4096)(hz:(tu (qI c m)).size<=400) :
 Calls prog 6 #[.string c,.int .i64 R] w fun e w'=>∃Q D hi,e=.returned (.pointer (some ⟨Q,0,none⟩))/\w'.heap[Q]?=some (.cells #[.pointer (some ⟨D,0,none⟩)] 59 (0,0))/\Q≠D/\jY w' w.heap.size D R (qI c m) 0 false 0 false [] [] 0 hi/\Fr [] w w':=by
 have H14:=hid (J3 c m R w hG hR hm (by omega) hz h9);have hd0:decide ((4096:Int)<((c.size:Nat):Int))=false:=by simp;omega
 clear hG hm hz;go_enter func6,ntmps6;go_wp2_with fail;refine H14.out.mono ?_;rintro e w1 ⟨Q,D,hi,rfl,hQ,Bp,kS,hf1⟩;have HQ:=hid hQ;have rZ:=hid kS;have HF:=hid hf1;have SP:=hid Bp;clear hQ kS hf1 Bp H14;go_wp2;go_ret;exact⟨Q,D,hi,rfl,HQ.out,SP.out,rZ.out,HF.out⟩
theorem NJ (c:ByteArray)(m:Nat)(R:Int)(w:World)(hG:Gr w)(hm:Dec.Ends c m)(h:4096<c.size\/400<(tu (qI c m)).size) :
 Calls prog 6 #[.string c,.int .i64 R] w fun e w'=>e=.returned (.pointer none)/\Fr [] w w':=by
 by_cases hc:4096<c.size
 ·have hd0:(4096:Int)<((c.size:Nat):Int):=by omega
  clear hG hm h;go_enter func6,ntmps6;go_wp2;go_ret;exact⟨rfl,Fr.refl [] w⟩
 ·have H14:=hid (NI c m R w hG hm (by omega) (h.resolve_left hc))
  have hd0:decide ((4096:Int)<((c.size:Nat):Int))=false:=by simp;omega
  clear hG hm h;go_enter func6,ntmps6;go_wp2_with fail;refine H14.out.mono ?_;rintro e w1 ⟨rfl,hf1⟩;have HF:=hid hf1;clear hf1 H14;go_wp2;go_ret;exact⟨rfl,HF.out⟩
theorem NK {w:World}{B D lo hi:Nat}{R:Int}{l:List Int}(h:jY w B D R l 0 false 0 false [] [] lo hi)(a x:Int)(ext bk:Bool)(c:ByteArray)(m:Nat)(hm:Dec.Ends c m)(hc:c.size<=4096)(hz:(tu (qI c m++l)).size<=400) :
 Calls prog 15 #[.pointer (some ⟨D,0,none⟩),.agg (opC 11 ext a x bk c)] w fun e w'=>∃mv l' us' rs',(mv=true/\l'=qI c m++l/\(∃m:Mo,m.l=l/\us'=[m])/\rs'=[])/\NB (tu l') mv us'.length rs'.length e/\Il w w' B D R l' us' rs' lo hi:=by
 have hs:=Ay c m hm;have hz':(tu (l.take 0++qI c m++l.drop 0)).size<=400:=by
  rw[eZ,List.drop_zero,bT];exact hz
 obtain⟨done,l',us',rs',h1,h3,h2⟩:=Bo h 11 (by decide) 0 0 (au _) (aN _) (qI c m) (Fj c m) (by omega) true true;obtain⟨e1,e2⟩:=h3 hz';rw[eZ,List.drop_zero,bT]at e1;have hs1:done=true/\l'=qI c m++l/\(∃m:Mo,m.l=l/\us'=[m])/\rs'=[]:=by
  rcases h1 with⟨_,_,_,⟨m',q1,q2⟩,q3⟩ | ⟨q,_⟩ | ⟨q,_⟩ | ⟨_,_,_,_,_,q⟩
  ·exact⟨e2,e1,⟨m',q1,by rw[q2];rfl⟩,q3⟩
  ·omega
  ·omega
  ·have:=q (by decide)
   rw[e2]at this;cases this
 refine(sS B D lo hi R 0 0 11 a x false false ext bk true true done l l' [] [] us' rs' c (tu (qI c m)) _ _ w h (fun Y hf=>?_) h2).mono (fun e w' ⟨k1,k2⟩=>⟨done,l',us',rs',hs1,k1,k2⟩);refine Hq D ext bk a x c _ Y (fun Y' hf'=>?_);have k:=Aw B D m lo hi R 0 0 l c false false [] [] Y' ((h.fr hf).fr hf') (by omega) hm;rw[Int.min_self,Int.max_self,Dg]at k;exact k
theorem J4 {w:World}{B D lo hi Q:Nat}{R:Int}{l:List Int}(h:jY w B D R l 0 false 0 false [] [] lo hi)(hQ:w.heap[Q]?=some (.cells #[.pointer (some ⟨D,0,none⟩)] 59 (0,0)))(Bp:Q≠D)(a x:Int)(ext bk:Bool)(c:ByteArray)(m:Nat)(hm:Dec.Ends c m)(hc:c.size<=4096)(hz:(tu (qI c m++l)).size<=400) :
 Calls prog 7 #[.pointer (some ⟨Q,0,none⟩),.agg (opC 11 ext a x bk c)] w fun e w'=>∃mv l' us' rs',(mv=true/\l'=qI c m++l/\(∃m:Mo,m.l=l/\us'=[m])/\rs'=[])/\NB (tu l') mv us'.length rs'.length e/\Il w w' B D R l' us' rs' lo hi:=by
 have SM:D<w.heap.size:=by
  obtain⟨vB,Z,P,Bl,V,Ls,vU,vR,L,aim,goal,hD,_⟩:=h.x;exact iO hD
 exact WD Q D B lo hi R 11 a x ext bk c (fun mv l' us' rs'=>mv=true/\l'=qI c m++l/\(∃m:Mo,m.l=l/\us'=[m])/\rs'=[]) w hQ h.bw Bp SM h.b9 h.hw (fun Y hf=>NK (h.fr hf) a x ext bk c m hm hc hz)
theorem Sc {l l':List Int}{us' rs rs':List Mo}{m:Mo}{mv:Bool}(h:Stp 16 l [m] rs mv l' us' rs'):mv=true/\l'=m.l:=by
 rcases h with⟨_,q,_⟩ | ⟨_,q1,m1,m2,q2,q3,_⟩ | ⟨q,_⟩ | ⟨_,_,_,q,_⟩
 ·omega
 ·have e:m=m1:=by
   cases us' with
   | nil=>simpa using q2
   | cons a r=>simp at q2
  exact⟨q1,by rw[q3,e]⟩
 ·omega
 ·have:=(q rfl).1
  cases this
theorem zK {d:Int}{l l':List Int}{us us' rs':List Mo}{mv:Bool}(h:Stp d l us [] mv l' us' rs')(h16:d≠16)(SO:d≠17):rs'=[]/\((11<=d/\d<=13/\mv=true/\∃m:Mo,m.l=l/\us'=yx us m)\/((¬(11<=d/\d<=13)\/mv=false)/\l'=l/\us'=us)):=by
 rcases h with⟨q1,q2,q3,q4,q5⟩ | ⟨q,_⟩ | ⟨q,_⟩ | ⟨q1,q2,q3,_,_,q6⟩
 ·exact⟨q5,.inl ⟨q1,q2,q3,q4⟩⟩
 ·exact absurd q h16
 ·exact absurd q SO
 ·refine⟨q3,.inr ⟨?_,q1,q2⟩⟩
  by_cases hd:11<=d/\d<=13
  ·exact .inr (q6 hd)
  ·exact .inl hd
def WE (w:World)(v:Value)(n:Nat):Prop:=∃a c,v=.slice a n c/\(n=0\/∃ad,a=some ad/\∀i,i<n->∃d ext x1 x2 bk t,w.cell? (ad.add (i * 6))=some (.int .i64 d)/\w.cell? (ad.add (i * 6+1))=some (.bool ext)/\w.cell? (ad.add (i * 6+2))=some (.int .i64 x1)/\w.cell? (ad.add (i * 6+3))=some (.int .i64 x2)/\w.cell? (ad.add (i * 6+4))=some (.bool bk)/\w.cell? (ad.add (i * 6+5))=some (.string t))
theorem uC (ad:Addr)(j k:Nat)(hk:0<k):(⟨(ad.add j).block,(ad.add j).off+k,none⟩:Addr)=ad.add (j+k):=by
 rcases bO j with h | h
 ·subst h;simp[Addr.add,show ¬k=0 by omega]
 ·simp[Addr.add,show ¬j=0 by omega,dQ]
theorem uZ {w Y:World}{ad:Addr}{j:Nat}{d x1 x2:Int}{ext bk:Bool}{t:ByteArray}(hf:Fr [] w Y)(h:w.cell? (ad.add j)=some (.int .i64 d)/\w.cell? (ad.add (j+1))=some (.bool ext)/\w.cell? (ad.add (j+2))=some (.int .i64 x1)/\w.cell? (ad.add (j+3))=some (.int .i64 x2)/\w.cell? (ad.add (j+4))=some (.bool bk)/\w.cell? (ad.add (j+5))=some (.string t)) :
 Y.cell? (ad.add j)=some (.int .i64 d)/\Y.cell? ⟨(ad.add j).block,(ad.add j).off+1,none⟩=some (.bool ext)/\Y.cell? ⟨(ad.add j).block,(ad.add j).off+2,none⟩=some (.int .i64 x1)/\Y.cell? ⟨(ad.add j).block,(ad.add j).off+3,none⟩=some (.int .i64 x2)/\Y.cell? ⟨(ad.add j).block,(ad.add j).off+4,none⟩=some (.bool bk)/\Y.cell? ⟨(ad.add j).block,(ad.add j).off+5,none⟩=some (.string t):=by
 obtain⟨h0,h1,h2,h3,h4,h5⟩:=h;rw[uC ad j 1 (by decide),uC ad j 2 (by decide),uC ad j 3 (by decide),uC ad j 4 (by decide),uC ad j 5 (by decide)];exact⟨qm hf h0,qm hf h1,qm hf h2,qm hf h3,qm hf h4,qm hf h5⟩
abbrev abc:ByteArray:=⟨#[97,98,99]⟩
theorem WG:qI abc 3=[97,98,99]:=by kernel_rfl
theorem WH:tu [97,98,99]=abc:=by kernel_rfl
theorem x_l:qI ⟨#[120]⟩ 1=[120]:=by kernel_rfl
theorem Sd:tu ([120]++[97,98,99])=⟨#[120,97,98,99]⟩:=by kernel_rfl
theorem acy:Dec.Ends abc 3:=by
 refine⟨by kernel_rfl,?_⟩;intro k hk;have h:k=0\/k=1\/k=2:=by omega
 rcases h with rfl | rfl | rfl <;> exact dD (by kernel_rfl)
theorem x_e:Dec.Ends ⟨#[120]⟩ 1:=by
 refine⟨by kernel_rfl,?_⟩;intro k hk;obtain rfl:k=0:=by omega
 exact dD (by kernel_rfl)
theorem Gr.nine {w:World}(h:Gr w):9<w.heap.size:=fC _ _ (h.u.2 0 (by decide)).1
theorem Se (w:World)(hG:Gr w)(h9:9<w.heap.size):Calls prog 6 #[.string abc,.int .i64 100] w fun e w'=>∃Q D hi,e=.returned (.pointer (some ⟨Q,0,none⟩))/\w'.heap[Q]?=some (.cells #[.pointer (some ⟨D,0,none⟩)] 59 (0,0))/\Q≠D/\jY w' w.heap.size D 100 [97,98,99] 0 false 0 false [] [] 0 hi/\Fr [] w w':=by
 have k:=Dp abc 3 100 w hG (by omega) acy h9 (by decide) (by rw[WG,WH];decide);rw[WG]at k;exact k
theorem Sf {w:World}{B D hi Q:Nat}(h:jY w B D 100 [97,98,99] 0 false 0 false [] [] 0 hi)(hQ:w.heap[Q]?=some (.cells #[.pointer (some ⟨D,0,none⟩)] 59 (0,0)))(Bp:Q≠D):Calls prog 7 #[.pointer (some ⟨Q,0,none⟩),.agg #[.int .i64 11,.bool false,.int .i64 0,.int .i64 0,.bool false,.string ⟨#[120]⟩]] w fun e w'=>∃(m:Mo) (nU nR:Nat),m.l=[97,98,99]/\NB ⟨#[120,97,98,99]⟩ true nU nR e/\Il w w' B D 100 ([120]++[97,98,99]) [m] [] 0 hi:=by
 refine(J4 h hQ Bp 0 0 false false ⟨#[120]⟩ 1 x_e (by decide) (by rw[x_l,Sd];decide)).mono ?_;rintro e w' ⟨mv,l',us',rs',⟨rfl,rfl,⟨m,hm,rfl⟩,rfl⟩,k1,k2⟩;rw[x_l]at k1 k2;rw[Sd]at k1;exact⟨m,_,_,hm,k1,k2⟩
theorem Sg {w:World}{B D lo hi Q:Nat}{ao fo:Int}{ab fb:Bool}{l:List Int}{m:Mo}(h:jY w B D 100 l ao ab fo fb [m] [] lo hi)(hm:m.l=[97,98,99])(hQ:w.heap[Q]?=some (.cells #[.pointer (some ⟨D,0,none⟩)] 59 (0,0)))(Bp:Q≠D):Calls prog 7 #[.pointer (some ⟨Q,0,none⟩),.agg #[.int .i64 16,.bool false,.int .i64 0,.int .i64 0,.bool false,.string ⟨#[]⟩]] w fun e w'=>∃nU nR,NB abc true nU nR e/\lM w w' B D:=by
 refine(Dn h hQ Bp 16 0 0 false false ⟨#[]⟩ (by decide)).mono ?_;rintro e w' ⟨mv,l',us',rs',hS,k1,lR,mg,mV,mX,lo',hi',_,_,k2⟩;obtain⟨rfl,rfl⟩:=Sc hS;rw[hm,WH]at k1;exact⟨_,_,k1,k2⟩
theorem H8 (s:ByteArray)(n:Nat)(R:Int)(vS:Value)(w:World)(hG:Gr w)(hend:Dec.Ends s n)(h:4096<s.size\/400<(tu (qI s n)).size) :
 Calls prog 3 #[.string s,.int .i64 R,vS] w fun e w'=>e=.returned (.bool true)/\Below w.heap.size w w':=by
 have H6:=hid (Se w hG hG.nine);have WI:=hid (fun(Y:World) (hf:Gr Y)=>NJ s n R Y hf hend h);have HG:=hid hG;clear hG h hend;go_enter func3,ntmps3;go_wp2_with fail;refine H6.out.mono ?_;rintro e w1 ⟨Q,D,hi,rfl,hQ,Bp,kS,hf1⟩;have C7:=hid (Sf kS hQ Bp);have HQ:=hid hQ;have SP:=hid Bp;have jc:=hid hf1;clear hQ kS hf1 Bp H6;go_wp2_with fail;refine C7.out.mono ?_;rintro e w2 ⟨m,n1,n2,hm,⟨ao,ab,fo,fb,a1,a2,gx,b1,b2,c1,c2,aS,nS,cS,aB,nB,cB,rfl⟩,ao2,ab2,fo2,fb2,lo2,hi2,kS,_,kH⟩;obtain⟨w3,hw3⟩:∃w3,w3=w2.alloc (.cells (AV ao ab fo fb a1 a2 gx b1 b2 c1 c2 aS nS cS true ⟨#[120,97,98,99]⟩ (.slice aB nB cB) n1 n2) 34):=⟨_,rfl⟩;have n_:=hid (show Fr [] w2 w3 by rw[hw3];exact(Fr.refl [] w2).alloc _);have lD:=hid (show w3.heap[w2.heap.size]?=some (.cells (AV ao ab fo fb a1 a2 gx b1 b2 c1 c2 aS nS cS true ⟨#[120,97,98,99]⟩ (.slice aB nB cB) n1 n2) 34 (0,0)) by rw[hw3];exact iL w2 _);have hDl:D<w2.heap.size:=by
  obtain⟨vB,Z,P,Bl,V,Ls,vU,vR,L,aim,goal,hD,_⟩:=kS.x;exact iO hD
 have WJ:=hid (Sg (kS.fr n_.out) hm (iJ (kH.obj HQ.out SP.out (by decide) (by decide)) n_.out aj) SP.out);have HCH:=hid (kH.trans (lM.FA n_.out));clear kS kH C7 hm;go_wp2_with fail;rw[<-hw3];clear hw3;refine WJ.out.mono ?_;rintro e w4 ⟨nU,nR,⟨lR,mg,mV,mX,a1',JT,Sh,b1',b2',c1',c2',Si,Sj,NU,Sk,Sl,AQ,rfl⟩,kH⟩;have r_:=hid (HCH.out.trans kH);have oI:=hid (kH.obj lD.out (by omega) (by decide) (by decide));obtain⟨w5,nK⟩:∃w5,w5=w4.alloc (.cells (AV lR mg mV mX a1' JT Sh b1' b2' c1' c2' Si Sj NU true abc (.slice Sk Sl AQ) nU nR) 34):=⟨_,rfl⟩;have kD:=hid (show Fr [] w4 w5 by rw[nK];exact(Fr.refl [] w4).alloc _);have rK:=hid (iJ oI.out kD.out aj);have p12:(w4.alloc (.cells (AV lR mg mV mX a1' JT Sh b1' b2' c1' c2' Si Sj NU true abc (.slice Sk Sl AQ) nU nR) 34)).cell? ⟨w2.heap.size,12,none⟩=some (.bool true):=by rw[<-nK];exact iG rK.out rfl
 have p13:(w4.alloc (.cells (AV lR mg mV mX a1' JT Sh b1' b2' c1' c2' Si Sj NU true abc (.slice Sk Sl AQ) nU nR) 34)).cell? ⟨w2.heap.size,13,none⟩=some (.string ⟨#[120,97,98,99]⟩):=by rw[<-nK];exact iG rK.out rfl
 have Wq:=hid (show Below w.heap.size w w5 from⟨kD.out.os.trans (r_.out.os.trans jc.out.os),kD.out.tape.trans (r_.out.tape.trans jc.out.tape),kD.out.output.trans (r_.out.output.trans jc.out.output),aK jc.out.size (aK r_.out.size kD.out.size),fun k hk=>(kD.out.block k (aM (aM hk jc.out.size) r_.out.size) aj).trans ((r_.out.low k hk (aM hk jc.out.size)).trans (jc.out.block k hk aj))⟩);clear kH WJ;go_wp2_with fail;rw[<-nK];clear nK p12 p13;have WK:=hid (Fr.of_below (S:=[]) Wq.out);refine(WI.out w5 (HG.out.fr WK.out (fun k hk=>absurd hk aj))).mono ?_;rintro e w6 ⟨rfl,jJ⟩;have PC:=hid ((WK.out.trans jJ).below (au _) (fun _ hk=>absurd hk aj));clear jJ WI;go_wp2;go_ret;exact⟨rfl,PC.out⟩
def Vw (us:List Mo):List ByteArray:=us.map (fun m=>tu m.l)
structure Sn (seen:List ByteArray)(us:List Mo):Prop where
 n:us.length=min 6 seen.length
 t:Vw us=seen.drop (seen.length - us.length)
theorem Sn.nil:Sn [] []:=⟨rfl,rfl⟩
theorem Sn.more {seen:List ByteArray}{us:List Mo}{m:Mo}{l:List Int}(h:Sn seen us)(hm:m.l=l):Sn (seen++[tu l]) (yx us m):=by
 have hn:=h.n;have ht:=h.t;have e1:Vw (us++[m])=seen.drop (seen.length - us.length)++[tu l]:=by
  rw[<-ht];simp[Vw,hm]
 unfold yx;split
 ·rename_i h6
  have hl:((us++[m]).tail).length=6:=by simp[h6]
  refine⟨by rw[hl,aD];simp;omega,?_⟩;rw[hl,show Vw (us++[m]).tail=(Vw (us++[m])).tail by simp[Vw,List.map_tail],e1,<-List.drop_one,aD,bq];rw[eL (by rw[cJ];omega),List.drop_drop,eL (by omega)]
  congr 2
  omega
 ·rename_i h6
  have hs:us.length=seen.length:=by omega
  refine⟨by rw[aD,aD];simp;omega,?_⟩;rw[e1,hs,dm,List.drop_zero,aD,aD,hs];simp
theorem Sn.at {seen:List ByteArray}{us:List Mo}{k:Nat}(h:Vw us=seen.drop (seen.length - us.length))(hle:us.length<=seen.length)(hk:k<us.length):∃m,us[us.length - 1 - k]?=some m/\seen[seen.length - 1 - k]?=some (tu m.l):=by
 have hk2:us.length - 1 - k<us.length:=by omega
 refine⟨us[us.length - 1 - k],aA hk2,?_⟩;have h1:(Vw us)[us.length - 1 - k]?=some (tu (us[us.length - 1 - k]).l):=by simp[Vw,hk2]
 rw[h,dG]at h1;rw[show seen.length - us.length+(us.length - 1 - k)=seen.length - 1 - k by omega]at h1;exact h1
theorem acC {l l':List Int}{us us' rs rs':List Mo}{mv:Bool}(h:Stp 16 l us rs mv l' us' rs')(hne:us≠[]):mv=true/\∃m m':Mo,us=us'++[m]/\l'=m.l/\m'.l=l/\rs'=rs++[m']:=by
 rcases h with⟨_,q,_⟩ | ⟨_,q1,q2⟩ | ⟨q,_⟩ | ⟨_,_,_,q,_⟩
 ·omega
 ·exact⟨q1,q2⟩
 ·omega
 ·exact absurd (q rfl).1 hne
theorem Sm {l l':List Int}{us' rs rs':List Mo}{mv:Bool}(h:Stp 16 l [] rs mv l' us' rs'):mv=false/\l'=l/\us'=[]/\rs'=rs:=by
 rcases h with⟨_,q,_⟩ | ⟨_,_,m,m',q,_⟩ | ⟨q,_⟩ | ⟨q1,q2,q3,q,_⟩
 ·omega
 ·exact absurd q (by simp)
 ·omega
 ·exact⟨(q rfl).2,q1,q2,q3⟩
theorem acD {l l':List Int}{us us' rs rs':List Mo}{mv:Bool}(h:Stp 17 l us rs mv l' us' rs')(hne:rs≠[]):∃m m':Mo,rs=rs'++[m]/\l'=m.l/\m'.l=l/\us'=us++[m']:=by
 rcases h with⟨_,q,_⟩ | ⟨q,_⟩ | ⟨_,_,q2⟩ | ⟨_,_,_,_,q,_⟩
 ·omega
 ·omega
 ·exact q2
 ·exact absurd (q rfl).1 hne
structure Vy (e0:ByteArray)(U:List Mo)(i:Nat)(l:List Int)(us rs:List Mo):Prop where
 u:us=U.take (U.length - i)
 r:rs.length=i
 z:i=0->tu l=e0
 h:0<i->∃m,rs.head?=some m/\tu m.l=e0
theorem Vy.start {e0:ByteArray}{U:List Mo}{l:List Int}(h:tu l=e0):Vy e0 U 0 l U [] :=
 ⟨by rw[e_,c_],rfl,fun _=>h,fun h=>absurd h (eG _)⟩
theorem Vy.step {e0:ByteArray}{U:List Mo}{i:Nat}{l l':List Int}{us us' rs rs':List Mo}{mv:Bool}(h:Vy e0 U i l us rs)(hi:i<U.length)(hs:Stp 16 l us rs mv l' us' rs'):mv=true/\Vy e0 U (i+1) l' us' rs'/\∃m,U[U.length - 1 - i]?=some m/\l'=m.l:=by
 have hlen:us.length=U.length - i:=by rw[h.u,bH];omega
 obtain⟨q1,m,m',q2,q3,q4,q5⟩:=acC hs (fun e=>by rw[e]at hlen;simp at hlen;omega);have hl':us'.length=U.length - (i+1):=by
  have:=congrArg List.length q2;rw[aD,bq]at this;omega
 have hU:U.take (U.length - i)=us'++[m]:=by rw[<-h.u];exact q2
 refine⟨q1,⟨?_,by rw[q5,aD,h.r];rfl,(fun e=>by omega),fun _=>?_⟩,m,?_,q3⟩
 ·have e:us'=(U.take (U.length - i)).take (U.length - (i+1)):=by rw[hU];exact(List.take_left' hl').symm
  rw[e,fq]
  congr 1
  omega
 ·rw[q5]
  rcases bO i with h0 | h0
  ·have e:rs=[]:=eM (by rw[h.r,h0])
   rw[e];exact⟨m',rfl,by rw[q4];exact h.z h0⟩
  ·obtain⟨m0,k1,k2⟩:=h.h h0
   refine⟨m0,?_,k2⟩;cases rs with
   | nil=>cases k1
   | cons a r=>exact k1
 ·have e:(U.take (U.length - i))[U.length - 1 - i]?=some m:=by
   rw[hU,aI (by omega),hl',show U.length - 1 - i - (U.length - (i+1))=0 by omega];rfl
  rw[dA (by omega)]at e;exact e
structure WL (e0:ByteArray)(n j:Nat)(l:List Int)(us rs:List Mo):Prop where
 c:us.length=j
 r:rs.length+j=n
 z:rs=[]->tu l=e0
 h:rs≠[]->∃m,rs.head?=some m/\tu m.l=e0
theorem Vy.red {e0:ByteArray}{U:List Mo}{l:List Int}{us rs:List Mo}(h:Vy e0 U U.length l us rs):WL e0 U.length 0 l us rs:=by
 refine⟨by rw[h.u];simp,by rw[h.r];rfl,fun e=>?_,fun e=>?_⟩
 ·refine h.z ?_
  rw[<-h.r,e];rfl
 ·refine h.h ?_
  rw[<-h.r];exact bW.2 e
theorem WL.step {e0:ByteArray}{n j:Nat}{l l':List Int}{us us' rs rs':List Mo}{mv:Bool}(h:WL e0 n j l us rs)(hj:j<n)(hs:Stp 17 l us rs mv l' us' rs'):WL e0 n (j+1) l' us' rs':=by
 have hr:=h.r;have hne:rs≠[]:=fun e=>by rw[e]at hr;simp at hr;omega
 obtain⟨m,m',q2,q3,q4,q5⟩:=acD hs hne;have hl:=congrArg List.length q2;rw[aD,bq]at hl;obtain⟨m0,k1,k2⟩:=h.h hne;refine⟨by rw[q5,aD,h.c];rfl,by omega,fun e=>?_,fun e=>⟨m0,?_,k2⟩⟩
 ·rw[q2,e]at k1
  have:m=m0:=by simpa using k1
  rw[q3,this];exact k2
 ·rw[q2]at k1
  cases rs' with
  | nil=>exact absurd rfl e
  | cons a r=>exact k1
theorem jY.frT {w w':World}{B D lo hi k:Nat}{R ao fo:Int}{l:List Int}{ab fb:Bool}{us rs:List Mo}{cs:Array Value}{f:Nat × Nat}{t:TypeId}(h:jY w B D R l ao ab fo fb us rs lo hi)(hf:Fr [k] w w')(hk:w.heap[k]?=some (.cells cs t f))(ht:85≠t/\134≠t/\116≠t/\3≠t)(hl:k<lo\/hi<=k)(h9:9<k):jY w' B D R l ao ab fo fb us rs lo hi:=by
 obtain⟨vB,Z,P,Bl,V,Ls,vU,vR,L,aim,goal,q1,q2,q3,q4,q5,q6,q7,q8,q9,Wy,Wz,WA⟩:=h.x;have ne:∀ {x:Nat} {c:Array Value} {t':TypeId} {f':Nat × Nat},w.heap[x]?=some (.cells c t' f')->t'≠t->x ∉ [k]:=fun hx ht hm=>by
  have:=ak.1 hm;subst this;rw[hk]at hx;cases hx;exact ht rfl
 have no:∀ {e:TypeId} {size n:Nat} {v:Value} {xs:List Value},w.ownsRow B e size v n xs->e≠t->w'.ownsRow B e size v n xs:=fun ho he=>Wr.jU ho (fun g hg=>hf.block g (ho.lt g hg).2 (fun hm=>own_ne ho hk (fun c f' h=>he (by cases h;rfl)) (by rw[<-ak.1 hm];exact hg.symm)))
 exact⟨⟨vB,Z,P,Bl,V,Ls,vU,vR,L,aim,goal,iJ q1 hf (ne q1 ht.1),iJ q2 hf (ne q2 ht.2.1),q3.cut hf (b7 (iO q2)) (fun j hj=>by rw[ak.1 hj];omega),no q4 ht.2.2.1,no q5 ht.2.2.1,q6,no q7 ht.2.2.2,q8,q9,Wy,Wz,WA⟩,h.pa,h.pf,h.t,h.mu,h.mr,h.n6,h.r,h.bD,h.b9,h.g.fr hf (fun j hj=>by rw[ak.1 hj];exact h9),aK h.bw hf.size,aK h.hw hf.size⟩
structure St (W0 w:World)(B D Q k:Nat)(R:Int)(l:List Int)(us rs:List Mo)(vS:Value)(seen:List ByteArray):Prop where
 d:∃ao ab fo fb lo hi,jY w B D R l ao ab fo fb us rs lo hi/\(k<lo\/hi<=k)/\(∀g,vS.ownBlock=some g->g<lo\/hi<=g)
 q:w.heap[Q]?=some (.cells #[.pointer (some ⟨D,0,none⟩)] 59 (0,0))
 qd:Q≠D
 o:∃cs,w.heap[k]?=some (.cells cs 34 (0,0))
 s:w.ownsRow W0.heap.size 9 1 vS seen.length (seen.map Value.string)
 b:Below W0.heap.size W0 w
 hb:W0.heap.size<=B
 hk:W0.heap.size<=k
 h9:9<W0.heap.size
theorem jY.isD {w:World}{B D lo hi:Nat}{R ao fo:Int}{l:List Int}{ab fb:Bool}{us rs:List Mo}(h:jY w B D R l ao ab fo fb us rs lo hi):∃c,w.heap[D]?=some (.cells c 85 (0,0)):=by
 obtain⟨vB,Z,P,Bl,V,Ls,vU,vR,L,aim,goal,q1,_⟩:=h.x;exact⟨_,q1⟩
theorem St.go {W0 w:World}{B D Q k:Nat}{R:Int}{l:List Int}{us rs:List Mo}{vS:Value}{seen:List ByteArray}(h:St W0 w B D Q k R l us rs vS seen)(d a x:Int)(ext bk:Bool)(c:ByteArray)(hc:c.size<=4096) :
 Calls prog 7 #[.pointer (some ⟨Q,0,none⟩),.agg (opC d ext a x bk c)] w fun e w'=>∃mv l' us' rs',Stp d l us rs mv l' us' rs'/\NB (tu l') mv us'.length rs'.length e/\St W0 w' B D Q k R l' us' rs' vS seen/\lM w w' B D/\k≠D:=by
 obtain⟨ao,ab,fo,fb,lo,hi,hd,hkl,hsl⟩:=h.d;refine(Dn hd h.q h.qd d a x ext bk c hc).mono ?_;rintro e w' ⟨mv,l',us',rs',hS,hP,lR,mg,mV,mX,lo',hi',hd',hlh,hch⟩;obtain⟨cs,ho⟩:=h.o;obtain⟨cD,hD⟩:=hd.isD;have D4:k≠D:=fun e=>by rw[e,hD]at ho;cases ho
 have hkw:=iO ho;refine⟨mv,l',us',rs',hS,hP,⟨⟨lR,mg,mV,mX,lo',hi',hd',by omega,fun g hg=>?_⟩,hch.obj h.q h.qd (by decide) (by decide),h.qd,⟨cs,hch.obj ho D4 (by decide) (by decide)⟩,?_,?_,h.hb,h.hk,h.h9⟩,hch,D4⟩
 ·have h1:=hsl g hg
  have h2:=(h.s.lt g hg).2;omega
 ·refine Wr.jU h.s (fun g hg=>hch.block g (h.s.lt g hg).2 (fun e=>?_) (fun c f e=>?_) (fun c f e=>?_))
  ·subst e
   exact own_ne h.s hD (fun c f h=>by cases h) hg.symm
  ·exact own_ne h.s e (fun c f h=>by cases h) hg.symm
  ·exact own_ne h.s e (fun c f h=>by cases h) hg.symm
 ·have b:=h.b
  exact⟨hch.os.trans b.os,hch.tape.trans b.tape,hch.output.trans b.output,aK b.size hch.size,fun x hx=>(hch.low x (aM hx h.hb) (aM hx b.size)).trans (b.block x hx)⟩
theorem St.oN {W0 w w':World}{B D Q k:Nat}{R:Int}{l:List Int}{us rs:List Mo}{vS:Value}{seen:List ByteArray}(h:St W0 w B D Q k R l us rs vS seen)(hf:Fr [] w w'):St W0 w' B D Q k R l us rs vS seen:=by
 obtain⟨ao,ab,fo,fb,lo,hi,hd,hkl,hsl⟩:=h.d;obtain⟨cs,ho⟩:=h.o;have b:=h.b;exact⟨⟨ao,ab,fo,fb,lo,hi,hd.fr hf,hkl,hsl⟩,iJ h.q hf aj,h.qd,⟨cs,iJ ho hf aj⟩,iM h.s hf,⟨hf.os.trans b.os,hf.tape.trans b.tape,hf.output.trans b.output,aK b.size hf.size,fun x hx=>(hf.block x (aM hx b.size) aj).trans (b.block x hx)⟩,h.hb,h.hk,h.h9⟩
theorem St.set {W0 w w':World}{B D Q k:Nat}{R:Int}{l:List Int}{us rs:List Mo}{vS:Value}{seen:List ByteArray}{cs:Array Value}(h:St W0 w B D Q k R l us rs vS seen)(hf:Fr [k] w w')(ho':w'.heap[k]?=some (.cells cs 34 (0,0))):St W0 w' B D Q k R l us rs vS seen:=by
 obtain⟨ao,ab,fo,fb,lo,hi,hd,hkl,hsl⟩:=h.d;obtain⟨cs0,ho⟩:=h.o;have b:=h.b;have hk:=h.hk;have h9:=h.h9;have hQk:Q ∉ [k]:=fun hm=>by
  have q:=h.q;rw[ak.1 hm,ho]at q;cases q
 refine⟨⟨ao,ab,fo,fb,lo,hi,hd.frT hf ho (by decide) hkl (by omega),hkl,hsl⟩,iJ h.q hf hQk,h.qd,⟨cs,ho'⟩,Wr.jU h.s (fun g hg=>hf.block g (h.s.lt g hg).2 (fun hm=>?_)),⟨hf.os.trans b.os,hf.tape.trans b.tape,hf.output.trans b.output,aK b.size hf.size,fun x hx=>(hf.block x (aM hx b.size) (fun hm=>?_)).trans (b.block x hx)⟩,h.hb,h.hk,h.h9⟩
 ·refine own_ne h.s ho (fun c f h=>by cases h) ?_
  rw[<-ak.1 hm];exact hg.symm
 ·have:=ak.1 hm
  omega
theorem St.app {W0 w w':World}{B D Q k:Nat}{R:Int}{l:List Int}{us rs:List Mo}{vS vS':Value}{seen:List ByteArray}{t:ByteArray}(h:St W0 w B D Q k R l us rs vS seen)(hown:w'.ownsRow W0.heap.size 9 1 vS' (seen.length+1) (seen.map Value.string++[.string t]))(hg:w.grownBy w' vS.ownBlock)(hat:vS'.ownBlock=vS.ownBlock\/vS'.ownBlock=some w.heap.size):St W0 w' B D Q k R l us rs vS' (seen++[t])/\w'.heap[k]?=w.heap[k]?:=by
 obtain⟨ao,ab,fo,fb,lo,hi,hd,hkl,hsl⟩:=h.d;obtain⟨cs,ho⟩:=h.o;have b:=h.b;have h9:=h.h9;have YU:=hd.hw;have hkk:w'.heap[k]?=w.heap[k]?:=hg.block k (iO ho) (own_ne h.s ho (fun c f h=>by cases h));have hd':jY w' B D R l ao ab fo fb us rs lo hi:=by
  rcases h.s.2 with⟨e,_⟩ | ⟨g,cap,cur,e,hbg,hcur,_⟩
  ·refine hd.fr ⟨hg.os,hg.tape,hg.output,hg.size,fun x hx _=>hg.block x hx ?_⟩
   rw[e];exact fun h=>by cases h
  ·have eo:vS.ownBlock=some g:=by rw[e];rfl
   refine hd.frT (k:=g) ⟨hg.os,hg.tape,hg.output,hg.size,fun x hx hn=>hg.block x hx ?_⟩ hcur (by decide) (hsl g eo) (by omega);rw[eo];intro h;cases h;exact hn (ak.2 rfl)
 refine⟨⟨⟨ao,ab,fo,fb,lo,hi,hd',hkl,fun g e=>?_⟩,(hg.block Q (iO h.q) (own_ne h.s h.q (fun c f h=>by cases h))).trans h.q,h.qd,⟨cs,hkk.trans ho⟩,by rw[aD,dz];exact hown,⟨hg.os.trans b.os,hg.tape.trans b.tape,hg.output.trans b.output,aK b.size hg.size,fun x hx=>(hg.block x (aM hx b.size) (fun e=>?_)).trans (b.block x hx)⟩,h.hb,h.hk,h.h9⟩,hkk⟩
 ·rcases hat with h1 | h1
  ·exact hsl g (h1.symm.trans e)
  ·rw[h1]at e
   cases e;exact .inr YU
 ·have:=(h.s.lt x e.symm).1
  omega
theorem Y9 {w:World}{base n cV:Nat}{aV:Option Addr}{seen:List ByteArray}{j:Nat}{t:ByteArray}(h:w.ownsRow base 9 1 (.slice aV n cV) seen.length (seen.map Value.string))(hj:seen[j]?=some t):∃g,aV=some ⟨g,0,none⟩/\w.cell? ⟨g,j,none⟩=some (.string t):=by
 have hjl:j<seen.length:=(aY.1 hj).1
 rcases h.2 with⟨_,e⟩ | ⟨g,cap,cur,e,_,hg,_,_,_,ht⟩
 ·omega
 ·cases e
  refine⟨g,rfl,iG hg ?_⟩;have h1:(cur.toList.take (seen.length * 1))[j]?=some (.string t):=by rw[ht,cA,hj];rfl
  rw[dA (by omega)]at h1;rw[<-dS];exact h1
def La (w:World)(k:Nat)(t:ByteArray)(mv:Bool)(nU nR:Nat):Prop:=∃(ao:Int) (ab:Bool) (fo:Int) (fb:Bool) (a1 a2 gx b1 b2 c1 c2:Int) (aS:Option Addr) (nS cS:Nat) (aB:Option Addr) (nB cB:Nat),w.heap[k]?=some (.cells (AV ao ab fo fb a1 a2 gx b1 b2 c1 c2 aS nS cS mv t (.slice aB nB cB) nU nR) 34 (0,0))
theorem Y_:(Tryz.prog.info? 34).map (·.size)=some 17:=by kernel_rfl
theorem Za (w:World)(k:Nat)(cs:Array Value):Fr [k] w (w.setRow k cs):=by
 refine⟨rfl,rfl,rfl,by simp[World.setRow],fun x _ hn=>?_⟩;have:¬k=x:=fun e=>hn (ak.2 e.symm)
 simp[World.setRow,Array.getElem?_modify,this]
theorem Vz {w:World}{k:Nat}{o c:Array Value}{t:TypeId}(h:w.heap[k]?=some (.cells o t (0,0))):(w.setRow k c).heap[k]?=some (.cells c t (0,0)):=by
 simp[World.setRow,Array.getElem?_modify,h]
theorem yD {ops:Array Oper}{rest:List Oper}{op:Oper}{a:Act}{w:World}{Q:Exit->Act->World->Prop}{x y:Operand}{k:Nat}{old cells:Array Value}(ho:op.op=.store 34 x y)(hgd:op.guard=none)(hx:a.eval x=.pointer (some ⟨k,0,none⟩))(hy:a.eval y=.agg cells)(hg:w.heap[k]?=some (.cells old 34 (0,0)))(SO:old.size=17)(hc:cells.size=17)(h1:cells.all (·.oneCell')=true)
 (h:∀w3,Fr [k] w w3->w3.heap[k]?=some (.cells cells 34 (0,0))->wpList prog ops Q rest (a.put op.dst undef) w3):wpList prog ops Q (op :: rest) a w :=
 wpList_store_row hgd 34 x y ho k cells hx hy 34 old hg (by rw[hc];exact Y_) (by rw[SO,hc]) h1 (h _ (Za w k cells) (Vz hg))
def Scr (w:World)(aV:Option Addr)(nV:Nat):Prop:=nV=0\/∃ad,aV=some ad/\∀i,i<nV->∃d ext x1 x2 bk t,w.cell? (ad.add (i * 6))=some (.int .i64 d)/\w.cell? (ad.add (i * 6+1))=some (.bool ext)/\w.cell? (ad.add (i * 6+2))=some (.int .i64 x1)/\w.cell? (ad.add (i * 6+3))=some (.int .i64 x2)/\w.cell? (ad.add (i * 6+4))=some (.bool bk)/\w.cell? (ad.add (i * 6+5))=some (.string t)
def acE:Nat->Code->Code
 | 0,c=>c
 | n+1,.seq _ b=>acE n b
 | _+1,c=>c
def afZ:Code->Code
 | .seq a _=>a
 | c=>c
noncomputable def VC (n:Nat):Code:=acE n (Tryz.f3.body.getD .skip)
noncomputable def Zb (n:Nat):Code:=afZ (VC n)
theorem Zd (W0 w:World)(B D Q k n:Nat)(R:Int)(l:List Int)(us rs:List Mo)(vS:Value)(seen:List ByteArray)(mv:Bool)(e0:ByteArray)(hn:n<=6)(hst:St W0 w B D Q k R l us rs vS seen)(hr:WL e0 n 0 l us rs)(hl:La w k (tu l) mv us.length rs.length)(u0 u1 u2 u3 u4 u5 u6 u8 u9 u10 u12 u13 u16 u17 u18 u19 u20 u21 u22 u23 u24 u25 u26 u27 u28 u29 u30 u31 u32 u33 u34 u35 u36 u37 u38 u39 u40 u41 u42 u43 u44 u45 u46 u47 u48 u49 u50 u51 u52 u53 u54 u55 u56 u57 u58 u59 u60 u61 u62 u63 u64 u65 u66 u67 u68 u69 u70 u71 u72 u73 u74 u75 u76 u77 u78 u79 u80 u81 u82 u83 u84 u85 u86 u87 u88 u89 u90 u91 u92 u93 u94 u95 u96 u97 u98 u99 u100 u101 u102 u103 u104 u105 u106 u107 u108 u109 u110 u111 u112 u113 u114 u115 u116 u117 u118 u119 u120 u121 u122 u123 u124 u125 u126 u127 u128 u129 u130 u131 u132 u133 u134 u135 u136 u137 u138 u139 u140 u141 u142 u143 u144 u145 u146 u147 u148 u149 u150 u151 u152 u153 u154 u155 u156 u157 u158 u159 u160 u161 u162 u163 u164 u165 u166 u167 u168 u169 u170 u171 u172 u173 u174 u175 u176 u177 u178 u179 u180 u181 u182 u183 u184 u185 u186 u187 u188 u189 u190 u191 u192 u193 u194 u195 u196 u197 u198 u199 u200 u201 u202 u203 u204 u205 u206 u207 u208 u209 u210 u211 u212 u213 u214 u215 u216 u217 u218:Value) :
 Code.wp prog (VC 17) (bodyPost prog Tryz.f3 (fun e w'=>e=.returned (.bool true)/\Below W0.heap.size W0 w')) ⟨#[u0,u1,u2,u3,u4,u5,u6,.pointer (some ⟨Q,0,none⟩),u8,u9,u10,.pointer (some ⟨k,0,none⟩),u12,u13,.string e0,.int .i64 (n:Nat),u16,u17,u18,u19,u20,u21,u22,u23,u24,u25,u26,u27,u28,u29,u30,u31,u32,u33,u34,u35,u36,u37,u38,u39,u40,u41,u42,u43,u44,u45,u46,u47,u48,u49,u50,u51,u52,u53,u54,u55,u56,u57,u58,u59,u60,u61,u62,u63,u64,u65,u66,u67,u68,u69,u70,u71,u72,u73,u74,u75,u76,u77,u78,u79,u80,u81,u82,u83,u84,u85,u86,u87,u88,u89,u90,u91,u92,u93,u94,u95,u96,u97,u98,u99,u100,u101,u102,u103,u104,u105,u106,u107,u108,u109,u110,u111,u112,u113,u114,u115,u116,u117,u118,u119,u120,u121,u122,u123,u124,u125,u126,u127,u128,u129,u130,u131,u132,u133,u134,u135,u136,u137,u138,u139,u140,u141,u142,u143,u144,u145,u146,u147,u148,u149,u150,u151,u152,u153,u154,u155,u156,u157,u158,u159,u160,u161,u162,u163,u164,u165,u166,u167,u168,u169,u170,u171,u172,u173,u174,u175,u176,u177,u178,u179,u180,u181,u182,u183,u184,u185,u186,u187,u188,u189,u190,u191,u192,u193,u194,u195,u196,u197,u198,u199,u200,u201,u202,u203,u204,u205,u206,u207,u208,u209,u210,u211,u212,u213,u214,u215,u216,u217,u218],[]⟩ w:=by
 have HST:=hid hst;have HR:=hid hr;have HL:=hid hl;clear hst hr hl
 conv=>arg 2;whnf
 go_wp2_with fail;go_loopw [18] (fun iv wr=>∃(i:Nat) (l:List Int) (us rs:List Mo) (mv:Bool),iv=.int .i64 i/\i<=n/\Hid (St W0 wr B D Q k R l us rs vS seen)/\Hid (WL e0 n i l us rs)/\Hid (La wr k (tu l) mv us.length rs.length)) (fun iv _=>n - (intOf iv).toNat)
 case atStart=>exact⟨0,l,us,rs,mv,rfl,aN _,HST,HR,HL⟩
 case round =>
  clear HST HR HL;obtain⟨i,l,us,rs,mv,rfl,hin,NL,HRr,J5⟩:=hrel;by_cases hi:i<n
  ·have y_:(i:Int)<(n:Int):=by omega
   have HI:=hid hi;have C7:=hid (NL.out.go 17 0 0 false false ⟨#[]⟩ (by decide));clear hi
   as_aux_lemma =>
    go_wp2_with fail
    rename_i K1 hK1
    refine C7.out.mono ?_;rintro e w2 ⟨mv',l',us',rs',hS,⟨ao,ab,fo,fb,a1,a2,gx,b1,b2,c1,c2,aS,nS,cS,aB,nB,cB,rfl⟩,uD,hch,D4⟩;have HR2:=hid (HRr.out.step HI.out hS);have HS2:=hid uD;obtain⟨WM,WN,WO,WQ,x1,x2,x3,x4,x5,x6,x7,WR,WT,WU,WV,WW,cB0,ho⟩:=J5.out;have jO:=hid (hch.obj ho D4 (by decide) (by decide));clear ho hch D4 uD hS C7;obtain⟨nU,tB⟩:∃nU,nU=us'.length:=⟨_,rfl⟩;obtain⟨nR,hnR⟩:∃nR,nR=rs'.length:=⟨_,rfl⟩;obtain⟨nt,hnt⟩:∃nt,nt=tu l':=⟨_,rfl⟩;rw[<-tB,<-hnR,<-hnt];have FC:=hid tB;have D3:=hid hnR;have zJ:=hid hnt;clear tB hnR hnt;refine hK1 _ _ (yD (k:=k) (cells:=AV ao ab fo fb a1 a2 gx b1 b2 c1 c2 aS nS cS mv' nt (.slice aB nB cB) nU nR) rfl rfl rfl rfl jO.out rfl rfl (by kernel_rfl) ?_);intro w3 hf3 ho3;have Cu:=hid (HS2.out.set hf3 ho3);have lD:=hid ho3;clear hf3 ho3;go_wp2;exact⟨⟨i+1,l',us',rs',mv',by go_num,HI.out,Cu,HR2,hid ⟨ao,ab,fo,fb,a1,a2,gx,b1,b2,c1,c2,aS,nS,cS,aB,nB,cB,by rw[<-FC.out,<-D3.out,<-zJ.out];exact lD.out⟩⟩,by have:=HI.out;simp[intOf];omega⟩
  ·have hie:i=n:=by omega
   subst hie;have hrs:rs=[]:=eM (by have:=HRr.out.r;omega);obtain⟨WM,WN,WO,WQ,x1,x2,x3,x4,x5,x6,x7,WR,WT,WU,WV,WW,cB0,ho⟩:=J5.out;have hc:=HRr.out.c;rw[HRr.out.z hrs,hc,hrs]at ho;have HO:=hid ho;have HB:=hid NL.out.b;clear HRr NL J5 ho hc hi hin
   as_aux_lemma =>
    have U0:=iG HO.out (i:=13) (v:=.string e0) rfl;have WB:=iG HO.out (i:=15) (v:=.int .i64 (i:Nat)) rfl;have r16:=iG HO.out (i:=16) (v:=.int .i64 0) rfl;go_wp2;go_ret;exact⟨rfl,HB.out⟩
theorem Ze (rest:Code)(Qp:Exit->Act->World->Prop)(W0 w:World)(B D Q k n:Nat)(R:Int)(l:List Int)(rs:List Mo)(vS:Value)(seen:List ByteArray)(mv:Bool)(hst:St W0 w B D Q k R l [] rs vS seen)(hr:rs.length=n)(hl:La w k (tu l) mv 0 n)(u0 u1 u2 u3 u4 u5 u6 u8 u9 u10 u12 u13 u14 u16 u17 u18 u19 u20 u21 u22 u23 u24 u25 u26 u27 u28 u29 u30 u31 u32 u33 u34 u35 u36 u37 u38 u39 u40 u41 u42 u43 u44 u45 u46 u47 u48 u49 u50 u51 u52 u53 u54 u55 u56 u57 u58 u59 u60 u61 u62 u63 u64 u65 u66 u67 u68 u69 u70 u71 u72 u73 u74 u75 u76 u77 u78 u79 u80 u81 u82 u83 u84 u85 u86 u87 u88 u89 u90 u91 u92 u93 u94 u95 u96 u97 u98 u99 u100 u101 u102 u103 u104 u105 u106 u107 u108 u109 u110 u111 u112 u113 u114 u115 u116 u117 u118 u119 u120 u121 u122 u123 u124 u125 u126 u127 u128 u129 u130 u131 u132 u133 u134 u135 u136 u137 u138 u139 u140 u141 u142 u143 u144 u145 u146 u147 u148 u149 u150 u151 u152 u153 u154 u155 u156 u157 u158 u159 u160 u161 u162 u163 u164 u165 u166 u167 u168 u169 u170 u171 u172 u173 u174 u175 u176 u177 u178 u179 u180 u181 u182 u183 u184 u185 u186 u187 u188 u189 u190 u191 u192 u193 u194 u195 u196 u197 u198 u199 u200 u201 u202 u203 u204 u205 u206 u207 u208 u209 u210 u211 u212 u213 u214 u215 u216 u217 u218:Value)
 (hrest:∀(w':World) (v17 v177 v178 v179 v180 v181 v182 v183 v184 v185 v186 v187 v188 v189 v190 v191 v192 v193 v194 v195:Value),St W0 w' B D Q k R l [] rs vS seen->La w' k (tu l) mv 0 n->Code.wp prog rest Qp ⟨#[u0,u1,u2,u3,u4,u5,u6,.pointer (some ⟨Q,0,none⟩),u8,u9,u10,.pointer (some ⟨k,0,none⟩),u12,u13,u14,.int .i64 (n:Nat),u16,v17,u18,u19,u20,u21,u22,u23,u24,u25,u26,u27,u28,u29,u30,u31,u32,u33,u34,u35,u36,u37,u38,u39,u40,u41,u42,u43,u44,u45,u46,u47,u48,u49,u50,u51,u52,u53,u54,u55,u56,u57,u58,u59,u60,u61,u62,u63,u64,u65,u66,u67,u68,u69,u70,u71,u72,u73,u74,u75,u76,u77,u78,u79,u80,u81,u82,u83,u84,u85,u86,u87,u88,u89,u90,u91,u92,u93,u94,u95,u96,u97,u98,u99,u100,u101,u102,u103,u104,u105,u106,u107,u108,u109,u110,u111,u112,u113,u114,u115,u116,u117,u118,u119,u120,u121,u122,u123,u124,u125,u126,u127,u128,u129,u130,u131,u132,u133,u134,u135,u136,u137,u138,u139,u140,u141,u142,u143,u144,u145,u146,u147,u148,u149,u150,u151,u152,u153,u154,u155,u156,u157,u158,u159,u160,u161,u162,u163,u164,u165,u166,u167,u168,u169,u170,u171,u172,u173,u174,u175,u176,v177,v178,v179,v180,v181,v182,v183,v184,v185,v186,v187,v188,v189,v190,v191,v192,v193,v194,v195,u196,u197,u198,u199,u200,u201,u202,u203,u204,u205,u206,u207,u208,u209,u210,u211,u212,u213,u214,u215,u216,u217,u218],[]⟩ w') :
 Code.wp prog ((Zb 15).seq ((Zb 16).seq rest)) Qp ⟨#[u0,u1,u2,u3,u4,u5,u6,.pointer (some ⟨Q,0,none⟩),u8,u9,u10,.pointer (some ⟨k,0,none⟩),u12,u13,u14,.int .i64 (n:Nat),u16,u17,u18,u19,u20,u21,u22,u23,u24,u25,u26,u27,u28,u29,u30,u31,u32,u33,u34,u35,u36,u37,u38,u39,u40,u41,u42,u43,u44,u45,u46,u47,u48,u49,u50,u51,u52,u53,u54,u55,u56,u57,u58,u59,u60,u61,u62,u63,u64,u65,u66,u67,u68,u69,u70,u71,u72,u73,u74,u75,u76,u77,u78,u79,u80,u81,u82,u83,u84,u85,u86,u87,u88,u89,u90,u91,u92,u93,u94,u95,u96,u97,u98,u99,u100,u101,u102,u103,u104,u105,u106,u107,u108,u109,u110,u111,u112,u113,u114,u115,u116,u117,u118,u119,u120,u121,u122,u123,u124,u125,u126,u127,u128,u129,u130,u131,u132,u133,u134,u135,u136,u137,u138,u139,u140,u141,u142,u143,u144,u145,u146,u147,u148,u149,u150,u151,u152,u153,u154,u155,u156,u157,u158,u159,u160,u161,u162,u163,u164,u165,u166,u167,u168,u169,u170,u171,u172,u173,u174,u175,u176,u177,u178,u179,u180,u181,u182,u183,u184,u185,u186,u187,u188,u189,u190,u191,u192,u193,u194,u195,u196,u197,u198,u199,u200,u201,u202,u203,u204,u205,u206,u207,u208,u209,u210,u211,u212,u213,u214,u215,u216,u217,u218],[]⟩ w:=by
 have HST:=hid hst;have HL:=hid hl;have HR:=hid hr;have HX:=hid hrest;have C7:=hid (HST.out.go 16 0 0 false false ⟨#[]⟩ (by decide));clear hst hr hl hrest
 conv=>arg 2;arg 1;whnf
 conv=>arg 2;arg 2;arg 1;whnf
 go_wp2_with fail;refine C7.out.mono ?_;rintro e w2 ⟨mv',l',us',rs',hS,⟨ao,ab,fo,fb,a1,a2,gx,b1,b2,c1,c2,aS,nS,cS,aB,nB,cB,rfl⟩,uD,hch,D4⟩;obtain⟨rfl,rfl,rfl,rfl⟩:=Sm hS;have HS2:=hid uD;obtain⟨WM,WN,WO,WQ,x1,x2,x3,x4,x5,x6,x7,WR,WT,WU,WV,WW,cB0,ho⟩:=HL.out;have jO:=hid (hch.obj ho D4 (by decide) (by decide));obtain⟨nt,hnt⟩:∃nt,nt=tu l':=⟨_,rfl⟩;rw[<-hnt,HR.out];have zJ:=hid hnt;rw[<-hnt]at jO;have ne0:=iO jO.out;have U0:=fun(o:Obj)=>iG (iJ jO.out ((Fr.refl [] w2).alloc o) aj) (i:=13) (v:=.string nt) rfl
 clear ho hch D4 uD hS C7 hnt ne0;go_wp2;refine HX.out _ _ _ _ _ _ _ _ _ _ _ _ _ _ _ _ _ _ _ _ _ (HS2.out.oN ((Fr.refl [] w2).alloc _)) ⟨WM,WN,WO,WQ,x1,x2,x3,x4,x5,x6,x7,WR,WT,WU,WV,WW,cB0,?_⟩;rw[<-zJ.out];exact iJ jO.out ((Fr.refl [] w2).alloc _) aj
theorem VD (rest:Code)(Qp:Exit->Act->World->Prop)(w:World)(k n sl cV:Nat)(aV:Option Addr)(mv:Bool)(e0:ByteArray)(Vj:n<=6)(hns:n<=sl)(h3:n=6\/n=sl)(hl:La w k e0 mv n 0)(u0 u1 u2 u3 u4 u5 u6 u7 u8 u9 u12 u13 u14 u15 u16 u17 u18 u19 u20 u21 u22 u23 u24 u25 u26 u27 u28 u29 u30 u31 u32 u33 u34 u35 u36 u37 u38 u39 u40 u41 u42 u43 u44 u45 u46 u47 u48 u49 u50 u51 u52 u53 u54 u55 u56 u57 u58 u59 u60 u61 u62 u63 u64 u65 u66 u67 u68 u69 u70 u71 u72 u73 u74 u75 u76 u77 u78 u79 u80 u81 u82 u83 u84 u85 u86 u87 u88 u89 u90 u91 u92 u93 u94 u95 u96 u97 u98 u99 u100 u101 u102 u103 u104 u105 u106 u107 u108 u109 u110 u111 u112 u113 u114 u115 u116 u117 u118 u119 u120 u121 u122 u123 u124 u125 u126 u127 u128 u129 u130 u131 u132 u133 u134 u135 u136 u137 u138 u139 u140 u141 u142 u143 u144 u145 u146 u147 u148 u149 u150 u151 u152 u153 u154 u155 u156 u157 u158 u159 u160 u161 u162 u163 u164 u165 u166 u167 u168 u169 u170 u171 u172 u173 u174 u175 u176 u177 u178 u179 u180 u181 u182 u183 u184 u185 u186 u187 u188 u189 u190 u191 u192 u193 u194 u195 u196 u197 u198 u199 u200 u201 u202 u203 u204 u205 u206 u207 u208 u209 u210 u211 u212 u213 u214 u215 u216 u217 u218:Value)
 (hrest:∀(v125 v126 v127 v128 v129 v130 v131 v132 v133 v134 v135 v136 v137 v138 v139 v140 v141 v142 v143 v144 v145 v146 v147 v148 v149 v150 v151:Value),Code.wp prog rest Qp ⟨#[u0,u1,u2,u3,u4,u5,u6,u7,u8,u9,.slice aV sl cV,.pointer (some ⟨k,0,none⟩),u12,u13,.string e0,.int .i64 (n:Nat),u16,u17,u18,u19,u20,u21,u22,u23,u24,u25,u26,u27,u28,u29,u30,u31,u32,u33,u34,u35,u36,u37,u38,u39,u40,u41,u42,u43,u44,u45,u46,u47,u48,u49,u50,u51,u52,u53,u54,u55,u56,u57,u58,u59,u60,u61,u62,u63,u64,u65,u66,u67,u68,u69,u70,u71,u72,u73,u74,u75,u76,u77,u78,u79,u80,u81,u82,u83,u84,u85,u86,u87,u88,u89,u90,u91,u92,u93,u94,u95,u96,u97,u98,u99,u100,u101,u102,u103,u104,u105,u106,u107,u108,u109,u110,u111,u112,u113,u114,u115,u116,u117,u118,u119,u120,u121,u122,u123,u124,v125,v126,v127,v128,v129,v130,v131,v132,v133,v134,v135,v136,v137,v138,v139,v140,v141,v142,v143,v144,v145,v146,v147,v148,v149,v150,v151,u152,u153,u154,u155,u156,u157,u158,u159,u160,u161,u162,u163,u164,u165,u166,u167,u168,u169,u170,u171,u172,u173,u174,u175,u176,u177,u178,u179,u180,u181,u182,u183,u184,u185,u186,u187,u188,u189,u190,u191,u192,u193,u194,u195,u196,u197,u198,u199,u200,u201,u202,u203,u204,u205,u206,u207,u208,u209,u210,u211,u212,u213,u214,u215,u216,u217,u218],[]⟩ w) :
 Code.wp prog ((Zb 11).seq ((Zb 12).seq ((Zb 13).seq rest))) Qp ⟨#[u0,u1,u2,u3,u4,u5,u6,u7,u8,u9,.slice aV sl cV,.pointer (some ⟨k,0,none⟩),u12,u13,u14,u15,u16,u17,u18,u19,u20,u21,u22,u23,u24,u25,u26,u27,u28,u29,u30,u31,u32,u33,u34,u35,u36,u37,u38,u39,u40,u41,u42,u43,u44,u45,u46,u47,u48,u49,u50,u51,u52,u53,u54,u55,u56,u57,u58,u59,u60,u61,u62,u63,u64,u65,u66,u67,u68,u69,u70,u71,u72,u73,u74,u75,u76,u77,u78,u79,u80,u81,u82,u83,u84,u85,u86,u87,u88,u89,u90,u91,u92,u93,u94,u95,u96,u97,u98,u99,u100,u101,u102,u103,u104,u105,u106,u107,u108,u109,u110,u111,u112,u113,u114,u115,u116,u117,u118,u119,u120,u121,u122,u123,u124,u125,u126,u127,u128,u129,u130,u131,u132,u133,u134,u135,u136,u137,u138,u139,u140,u141,u142,u143,u144,u145,u146,u147,u148,u149,u150,u151,u152,u153,u154,u155,u156,u157,u158,u159,u160,u161,u162,u163,u164,u165,u166,u167,u168,u169,u170,u171,u172,u173,u174,u175,u176,u177,u178,u179,u180,u181,u182,u183,u184,u185,u186,u187,u188,u189,u190,u191,u192,u193,u194,u195,u196,u197,u198,u199,u200,u201,u202,u203,u204,u205,u206,u207,u208,u209,u210,u211,u212,u213,u214,u215,u216,u217,u218],[]⟩ w:=by
 obtain⟨WM,WN,WO,WQ,x1,x2,x3,x4,x5,x6,x7,WR,WT,WU,WV,WW,cB0,ho⟩:=hl;have HO:=hid ho;have HX:=hid hrest;clear ho hrest;have U0:=iG HO.out (i:=13) (v:=.string e0) rfl;have WB:=iG HO.out (i:=15) (v:=.int .i64 (n:Nat)) rfl;have r16:=iG HO.out (i:=16) (v:=.int .i64 0) rfl;have f1:decide ((6:Int)<(n:Int))=false:=by simp;omega
 have f1P:¬(6:Int)<(n:Int):=by omega
 have f1N:¬ 6<n:=by omega
 have f2:decide ((sl:Int)<(n:Int))=false:=by simp;omega
 have f2P:¬(sl:Int)<(n:Int):=by omega
 have f2N:¬sl<n:=by omega
 have HN6:=hid Vj;have nZ:=hid hns;clear Vj hns
 conv=>arg 2;arg 1;whnf
 conv=>arg 2;arg 2;arg 1;whnf
 conv=>arg 2;arg 2;arg 2;arg 1;whnf
 by_cases hlt:n<sl
 ·have h6:n=6:=h3.resolve_right (by omega)
  have f3:(n:Int)<(sl:Int):=by omega
  have f4:decide ((n:Int)<6)=false:=by simp;omega
  have f4P:¬(n:Int)<6:=by omega
  have f4N:¬n<6:=by omega
  clear h3 h6
  as_aux_lemma =>
   go_wp2;exact HX.out _ _ _ _ _ _ _ _ _ _ _ _ _ _ _ _ _ _ _ _ _ _ _ _ _ _ _
 ·have f3:decide ((n:Int)<(sl:Int))=false:=by simp;omega
  have f3P:¬(n:Int)<(sl:Int):=by omega
  clear h3
  as_aux_lemma =>
   go_wp2;exact HX.out _ _ _ _ _ _ _ _ _ _ _ _ _ _ _ _ _ _ _ _ _ _ _ _ _ _ _
theorem VF (rest:Code)(Qp:Exit->Act->World->Prop)(W0 w:World)(B D Q k n sl cV:Nat)(aV:Option Addr)(R:Int)(l:List Int)(us:List Mo)(seen:List ByteArray)(mv:Bool)(e0:ByteArray)(Vj:n<=6)(hns:n<=sl)(hs:sl<=200)(hst:St W0 w B D Q k R l us [] (.slice aV sl cV) seen)(hsn:Sn seen us)(hn:us.length=n)(hsl:seen.length=sl)(he:tu l=e0)(hl:La w k e0 mv n 0)(u0 u1 u2 u3 u4 u5 u6 u8 u9 u12 u13 u14 u16 u17 u18 u19 u20 u21 u22 u23 u24 u25 u26 u27 u28 u29 u30 u31 u32 u33 u34 u35 u36 u37 u38 u39 u40 u41 u42 u43 u44 u45 u46 u47 u48 u49 u50 u51 u52 u53 u54 u55 u56 u57 u58 u59 u60 u61 u62 u63 u64 u65 u66 u67 u68 u69 u70 u71 u72 u73 u74 u75 u76 u77 u78 u79 u80 u81 u82 u83 u84 u85 u86 u87 u88 u89 u90 u91 u92 u93 u94 u95 u96 u97 u98 u99 u100 u101 u102 u103 u104 u105 u106 u107 u108 u109 u110 u111 u112 u113 u114 u115 u116 u117 u118 u119 u120 u121 u122 u123 u124 u125 u126 u127 u128 u129 u130 u131 u132 u133 u134 u135 u136 u137 u138 u139 u140 u141 u142 u143 u144 u145 u146 u147 u148 u149 u150 u151 u152 u153 u154 u155 u156 u157 u158 u159 u160 u161 u162 u163 u164 u165 u166 u167 u168 u169 u170 u171 u172 u173 u174 u175 u176 u177 u178 u179 u180 u181 u182 u183 u184 u185 u186 u187 u188 u189 u190 u191 u192 u193 u194 u195 u196 u197 u198 u199 u200 u201 u202 u203 u204 u205 u206 u207 u208 u209 u210 u211 u212 u213 u214 u215 u216 u217 u218:Value)
 (hrest:∀(w':World) (l':List Int) (rs':List Mo) (mv':Bool) (v6 v16 v152 v153 v154 v155 v156 v157 v158 v159 v160 v161 v162 v163 v164 v165 v166 v167 v168 v169 v170 v171 v172 v173 v174 v175 v176:Value),St W0 w' B D Q k R l' [] rs' (.slice aV sl cV) seen->WL e0 n 0 l' [] rs'->rs'.length=n->La w' k (tu l') mv' 0 n->Code.wp prog rest Qp ⟨#[u0,u1,u2,u3,u4,u5,v6,.pointer (some ⟨Q,0,none⟩),u8,u9,.slice aV sl cV,.pointer (some ⟨k,0,none⟩),u12,u13,u14,.int .i64 (n:Nat),v16,u17,u18,u19,u20,u21,u22,u23,u24,u25,u26,u27,u28,u29,u30,u31,u32,u33,u34,u35,u36,u37,u38,u39,u40,u41,u42,u43,u44,u45,u46,u47,u48,u49,u50,u51,u52,u53,u54,u55,u56,u57,u58,u59,u60,u61,u62,u63,u64,u65,u66,u67,u68,u69,u70,u71,u72,u73,u74,u75,u76,u77,u78,u79,u80,u81,u82,u83,u84,u85,u86,u87,u88,u89,u90,u91,u92,u93,u94,u95,u96,u97,u98,u99,u100,u101,u102,u103,u104,u105,u106,u107,u108,u109,u110,u111,u112,u113,u114,u115,u116,u117,u118,u119,u120,u121,u122,u123,u124,u125,u126,u127,u128,u129,u130,u131,u132,u133,u134,u135,u136,u137,u138,u139,u140,u141,u142,u143,u144,u145,u146,u147,u148,u149,u150,u151,v152,v153,v154,v155,v156,v157,v158,v159,v160,v161,v162,v163,v164,v165,v166,v167,v168,v169,v170,v171,v172,v173,v174,v175,v176,u177,u178,u179,u180,u181,u182,u183,u184,u185,u186,u187,u188,u189,u190,u191,u192,u193,u194,u195,u196,u197,u198,u199,u200,u201,u202,u203,u204,u205,u206,u207,u208,u209,u210,u211,u212,u213,u214,u215,u216,u217,u218],[]⟩ w') :
 Code.wp prog ((Zb 14).seq rest) Qp ⟨#[u0,u1,u2,u3,u4,u5,u6,.pointer (some ⟨Q,0,none⟩),u8,u9,.slice aV sl cV,.pointer (some ⟨k,0,none⟩),u12,u13,u14,.int .i64 (n:Nat),u16,u17,u18,u19,u20,u21,u22,u23,u24,u25,u26,u27,u28,u29,u30,u31,u32,u33,u34,u35,u36,u37,u38,u39,u40,u41,u42,u43,u44,u45,u46,u47,u48,u49,u50,u51,u52,u53,u54,u55,u56,u57,u58,u59,u60,u61,u62,u63,u64,u65,u66,u67,u68,u69,u70,u71,u72,u73,u74,u75,u76,u77,u78,u79,u80,u81,u82,u83,u84,u85,u86,u87,u88,u89,u90,u91,u92,u93,u94,u95,u96,u97,u98,u99,u100,u101,u102,u103,u104,u105,u106,u107,u108,u109,u110,u111,u112,u113,u114,u115,u116,u117,u118,u119,u120,u121,u122,u123,u124,u125,u126,u127,u128,u129,u130,u131,u132,u133,u134,u135,u136,u137,u138,u139,u140,u141,u142,u143,u144,u145,u146,u147,u148,u149,u150,u151,u152,u153,u154,u155,u156,u157,u158,u159,u160,u161,u162,u163,u164,u165,u166,u167,u168,u169,u170,u171,u172,u173,u174,u175,u176,u177,u178,u179,u180,u181,u182,u183,u184,u185,u186,u187,u188,u189,u190,u191,u192,u193,u194,u195,u196,u197,u198,u199,u200,u201,u202,u203,u204,u205,u206,u207,u208,u209,u210,u211,u212,u213,u214,u215,u216,u217,u218],[]⟩ w:=by
 have HX:=hid hrest;have HST:=hid hst;have DD:=hid hsn;have HN:=hid hn;have HSL:=hid hsl;have HU:=hid (Vy.start (U:=us) he);have HL:=hid (show La w k (tu l) mv us.length ([]:List Mo).length by rw[he,hn];exact hl);clear hrest hst hsn hn hsl he hl
 conv=>arg 2;arg 1;whnf
 go_wp2_with fail;go_loopw [16] (fun iv wr=>∃(i:Nat) (l':List Int) (us' rs':List Mo) (mv':Bool),iv=.int .i64 i/\i<=n/\Hid (St W0 wr B D Q k R l' us' rs' (.slice aV sl cV) seen)/\Hid (Vy e0 us i l' us' rs')/\Hid (La wr k (tu l') mv' us'.length rs'.length)) (fun iv _=>n - (intOf iv).toNat)
 case atStart=>exact⟨0,l,us,[],mv,rfl,aN _,HST,HU,HL⟩
 case round =>
  clear HST HU HL;obtain⟨i,l1,VG,rs1,Zf,rfl,hin,NL,HUr,J5⟩:=hrel;by_cases hi:i<n
  ·have y_:(i:Int)<(n:Int):=by omega
   have HI:=hid hi;obtain⟨j,hj⟩:∃j,sl=j+1+i:=⟨sl - 1 - i,by omega⟩;obtain⟨s1,hs1⟩:∃s1,s1=j+i:=⟨_,rfl⟩;have q1:(sl:Int) - 1=(s1:Int):=by omega
   have q2:(s1:Int) - (i:Int)=(j:Int):=by omega
   have q3:(j:Int)<(sl:Int):=by omega
   have q4:j<sl:=by omega
   have q5:IntKind.i64.wrap (s1:Int)=(s1:Int):=by rw[fM];omega
   have q6:IntKind.i64.wrap (j:Int)=(j:Int):=by rw[fM];omega
   have HJ:=hid hj;have C7:=hid (NL.out.go 16 0 0 false false ⟨#[]⟩ (by decide));clear hi hj hs1
   as_aux_lemma =>
    go_wp2_with fail
    rename_i K1 hK1
    refine C7.out.mono ?_;rintro e w2 ⟨mv',l',us',rs',hS,⟨ao,ab,fo,fb,a1,a2,gx,b1,b2,c1,c2,aS,nS,cS,aB,nB,cB,rfl⟩,uD,hch,D4⟩;obtain⟨hmv,hU2,m,hm1,hm2⟩:=HUr.out.step (by rw[HN.out];exact HI.out) hS;subst hmv;obtain⟨m',hm3,hm4⟩:=Sn.at (k:=i) DD.out.t (by rw[HN.out,HSL.out];exact hns) (by rw[HN.out];exact HI.out);rw[hm1]at hm3;cases hm3;rw[<-hm2,HSL.out,show sl - 1 - i=j by have:=HJ.out;omega]at hm4;have HS2:=hid uD;have zk:=hid hU2;obtain⟨WM,WN,WO,WQ,x1,x2,x3,x4,x5,x6,x7,WR,WT,WU,WV,WW,cB0,ho⟩:=J5.out;have jO:=hid (hch.obj ho D4 (by decide) (by decide));obtain⟨nU,tB⟩:∃nU,nU=us'.length:=⟨_,rfl⟩;obtain⟨nR,hnR⟩:∃nR,nR=rs'.length:=⟨_,rfl⟩;obtain⟨nt,hnt⟩:∃nt,nt=tu l':=⟨_,rfl⟩;rw[<-tB,<-hnR,<-hnt];rw[<-hnt]at hm4;have FC:=hid tB;have D3:=hid hnR;have zJ:=hid hnt;refine hK1 _ _ (yD (k:=k) (cells:=AV ao ab fo fb a1 a2 gx b1 b2 c1 c2 aS nS cS true nt (.slice aB nB cB) nU nR) rfl rfl rfl rfl jO.out rfl rfl (by kernel_rfl) ?_);intro w3 hf3 ho3;have Cu:=hid (HS2.out.set hf3 ho3);have lD:=hid ho3;obtain⟨g,rfl,zc⟩:=Y9 Cu.out.s hm4;have z12:=iG lD.out (i:=12) (v:=.bool true) rfl;have z13:=iG lD.out (i:=13) (v:=.string nt) rfl;clear ho hch D4 uD hS C7 hU2 hm1 hm2 hm4 tB hnR hnt hf3 ho3;go_wp2_with fail;go_quiet (fail);go_wp2;exact⟨⟨i+1,l',us',rs',true,by go_num,HI.out,hid (Cu.out.oN ((Fr.refl [] w3).drewN _)),zk,hid ⟨ao,ab,fo,fb,a1,a2,gx,b1,b2,c1,c2,aS,nS,cS,aB,nB,cB,by rw[<-FC.out,<-D3.out,<-zJ.out];exact iJ lD.out ((Fr.refl [] w3).drewN _) aj⟩⟩,by have:=HI.out;simp[intOf];omega⟩
  ·have hie:i=n:=by omega
   subst hie;have hu0:VG=[]:=by have h:=HUr.out.u;rw[HN.out,dm,eZ]at h;exact h
   subst hu0;have HR:=hid (show WL e0 i 0 l1 [] rs1 by have h:=HUr.out;rw[<-HN.out]at h ⊢;exact h.red);have hrl:=HUr.out.r;have Su:=hid (show La wr k (tu l1) Zf 0 i by have h:=J5.out;rw[hrl]at h;exact h);have HRL:=hid hrl;clear HUr J5 hrl hi hin
   as_aux_lemma =>
    go_wp2;exact HX.out _ l1 rs1 Zf _ _ _ _ _ _ _ _ _ _ _ _ _ _ _ _ _ _ _ _ _ _ _ _ _ _ _ NL.out HR.out HRL.out Su.out
end Go.Proofs.YtnakejhohdbfdacGreatDoor.Cls.Dc

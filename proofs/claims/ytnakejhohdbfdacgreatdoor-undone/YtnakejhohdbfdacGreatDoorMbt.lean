import Derived.Test.YtnakejhohdbfdacGreatDoorMbq
set_option maxHeartbeats 4000000
set_option maxRecDepth 10000
namespace Go.Proofs.YtnakejhohdbfdacGreatDoor.Cls.Dc
open Go.RowKit Dec BA pS Lay j9 Go.Proofs.Tryz
theorem fr5 (w:World)(x:Nat)(a b c d e:Value):Fr [x] w (((((w.setCell ⟨x,0,none⟩ a).setCell ⟨x,1,none⟩ b).setCell ⟨x,2,none⟩ c).setCell ⟨x,3,none⟩ d).setCell ⟨x,4,none⟩ e):=by
 iterate 5 refine Fr.set ?_ (ak.2 rfl) _
 exact Fr.refl _ _
theorem RT (B D lo hi:Nat)(R ao fo:Int)(l:List Int)(ab fb:Bool)(us rs:List Mo)(m:Mo)(w:World)(h:jY w B D R l ao ab fo fb (us++[m]) rs lo hi) :
 Calls prog 29 #[.pointer (some ⟨D,0,none⟩)] w fun e w'=>e=.returned (.bool true)/\∃lR mg mV mX,jY w' B D R m.l lR mg mV mX us (rs++[Mo.mk l ao ab fo fb]) w.heap.size w'.heap.size/\lM w w' B D:=by
 obtain⟨vB,Z,P,Bl,V,Ls,vU,vR,L,aim,goal,q1,q2,_⟩:=id h.x;have hDl:=iO q1;have Vj:us.length+(rs++[Mo.mk l ao ab fo fb]).length<=6:=by have:=h.n6;simp only[aD,bg,List.length_nil]at this ⊢;omega
 have Bf:=hid (fun(Y:World) (hf:Fr [] w Y)=>yu D Z P 2 10 20 R ao fo goal (tu l) vB vU vR ab fb aim Y (iJ q1 hf aj) (iJ q2 hf aj));have JZ:=hid (fun(Y:World) (hf:Fr [] w Y)=>RM B D lo hi R ao fo l ab fb us rs m w Y hf h);have U9:=hid (fun(Y:World) (hM:∃y,Mid w Y B D R (tu l) us (rs++[Mo.mk l ao ab fo fb]) y)=>yA D B R m.ao m.fo (tu l) m.l m.ab m.fb _ _ hM.choose w Y hM.choose_spec h.g h.bD h.b9 hDl h.r (h.mu m (by simp)) (fun x hx=>h.mu x (dO _ hx)) (fun x hx=>(a_.1 hx).elim (h.mr x) (fun e=>by rw[ak.1 e];exact h.t)) Vj);clear h q1 q2 Vj;go_enter func29,ntmps29;go_wp2_with fail
 go_region_with (first
  | (go_at_call 60;refine(JZ.out (w1.alloc (.cells #[.string ⟨#[]⟩,.int .i64 0,.bool false,.int .i64 0,.bool false] 116)) (jc.out.alloc _)).mono ?_;rintro e w2 ⟨rfl,hM,hk⟩;have HR2:=hid (show w2.heap[w1.heap.size]?=some (.cells #[.string ⟨#[]⟩,.int .i64 0,.bool false,.int .i64 0,.bool false] 116 (0,0))from(hk _ jc.out.size (by simp)).trans (iL w1 _));have HM:=hid hM;have Fy:=hid (show w.heap.size<=w1.heap.size/\w1.heap.size<(w1.alloc (.cells #[.string ⟨#[]⟩,.int .i64 0,.bool false,.int .i64 0,.bool false] 116)).heap.size from⟨jc.out.size,by simp⟩);have r0:=iG HR2.out (i:=0) (v:=.string ⟨#[]⟩) rfl;have k0:=iH HR2.out 0;have r1:=iG HR2.out (i:=1) (v:=.int .i64 0) rfl;have k1:=iH HR2.out 1;have r2:=iG HR2.out (i:=2) (v:=.bool false) rfl;have k2:=iH HR2.out 2;have r3:=iG HR2.out (i:=3) (v:=.int .i64 0) rfl;have k3:=iH HR2.out 3;have r4:=iG HR2.out (i:=4) (v:=.bool false) rfl;have k4:=iH HR2.out 4;clear hM hk)
  | (go_at_call 60;have hA:=HA;refine(JZ.out w1 jc.out).mono ?_;rintro e w2 ⟨rfl,hM,hk⟩;have HR2:=hid (show w2.heap[w.heap.size]?=some (.cells #[.string ⟨#[]⟩,.int .i64 0,.bool false,.int .i64 0,.bool false] 116 (0,0))from(hk _ (au _) (iO hA.out)).trans hA.out);have HM:=hid hM;have Fy:=hid (show w.heap.size<=w.heap.size/\w.heap.size<w1.heap.size from⟨au _,iO hA.out⟩);have r0:=iG HR2.out (i:=0) (v:=.string ⟨#[]⟩) rfl;have k0:=iH HR2.out 0;have r1:=iG HR2.out (i:=1) (v:=.int .i64 0) rfl;have k1:=iH HR2.out 1;have r2:=iG HR2.out (i:=2) (v:=.bool false) rfl;have k2:=iH HR2.out 2;have r3:=iG HR2.out (i:=3) (v:=.int .i64 0) rfl;have k3:=iH HR2.out 3;have r4:=iG HR2.out (i:=4) (v:=.bool false) rfl;have k4:=iH HR2.out 4;clear hM hk hA)
  | (go_at_call 60;refine(JZ.out w1 jc.out).mono ?_;rintro e w2 ⟨rfl,hM,hk⟩;have HM:=hid hM;clear hM hk)
  | (go_at_call 59;refine(Bf.out (w.drew.alloc (.cells #[.string ⟨#[]⟩,.int .i64 0,.bool false,.int .i64 0,.bool false] 116)) ((Fr.refl [] w).drew.alloc _)).mono ?_;rintro e w1 ⟨rfl,hf1⟩;have jc:=hid (show Fr [] w w1 from Fr.trans ((Fr.refl [] w).drew.alloc _) hf1);have HA:=hid (show w1.heap[w.heap.size]?=some (.cells #[.string ⟨#[]⟩,.int .i64 0,.bool false,.int .i64 0,.bool false] 116 (0,0))from iJ (iL w.drew _) hf1 aj);clear hf1)
  | (go_at_call 59;refine(Bf.out w.drew (Fr.refl [] w).drew).mono ?_;rintro e w1 ⟨rfl,hf1⟩;have jc:=hid (show Fr [] w w1 from Fr.trans (Fr.refl [] w).drew hf1);clear hf1))
 all_goals (
  go_wp2_with fail
  refine(U9.out _ (by first | exact⟨_,HM.out.fr ((Fr.refl [] _).alloc _)⟩ | exact⟨_,HM.out.set (fr5 _ _ _ _ _ _ _) Fy.out.1 Fy.out.2 hDl⟩)).mono ?_
  rintro e w4 ⟨rfl,hd,hc⟩
  have HD4:=hid hd
  have HC4:=hid hc
  clear hd hc
  go_wp2
  go_ret
  exact⟨rfl,_,_,_,_,HD4.out,HC4.out⟩)
theorem Vk (B D lo hi:Nat)(R ao fo:Int)(l:List Int)(ab fb:Bool)(rs:List Mo)(w:World)(h:jY w B D R l ao ab fo fb [] rs lo hi) :
 Calls prog 29 #[.pointer (some ⟨D,0,none⟩)] w fun e w'=>e=.returned (.bool false)/\Fr [] w w':=by
 obtain⟨vB,Z,P,Bl,V,Ls,vU,vR,L,aim,goal,q1,q2,_,q4,q5,_⟩:=id h.x;have hv:∃a c,vU=.slice a 0 c:=by
  obtain⟨a,c,e,_⟩:=Wr.jo q4;exact⟨a,c,e⟩
 obtain⟨av,cv,hv⟩:=hv;subst hv;have Bf:=hid (fun(Y:World) (hf:Fr [] w Y)=>yu D Z P 2 10 20 R ao fo goal (tu l) vB _ _ ab fb aim Y (iJ q1 hf aj) (iJ q2 hf aj));have JZ:=hid (fun(Y:World) (hf:Fr [] w Y)=>(Hl D (tu l) ⟨#[]⟩ ao fo 0 0 ab fb false false false Y (fun Y1 w1=>Fr [] Y1 w1) (fun Y1 hf1 hlt=>(Hj D 7 _ _ av cv (tu l) ao fo ab fb Y1 (iJ (iJ q1 hf aj) hf1 aj) rfl).mono (fun e w' ⟨k1,k2⟩=>⟨k1,k2.block _ (by omega) aj,k2⟩))).mono (fun e w' ⟨k1,Y1,w1,k2,_,k3,k4⟩=>(⟨k1,ni ((hf.trans k2).trans k3) k4 (.inr (by have:=hf.size;omega)),fun k _ h2=>(ni (k2.trans k3) k4 (.inr (aF _)):Fr [] Y w').block k h2 aj⟩:_/\Fr [] w w'/\∀k,w.heap.size<=k->k<Y.heap.size->w'.heap[k]?=Y.heap[k]?)));clear h q1 q2 q4 q5;go_enter func29,ntmps29;go_wp2_with fail
 go_region_with (first
  | (go_at_call 60;refine(JZ.out (w1.alloc (.cells #[.string ⟨#[]⟩,.int .i64 0,.bool false,.int .i64 0,.bool false] 116)) (jc.out.alloc _)).mono ?_;rintro e w2 ⟨rfl,hM,hk⟩;have HR2:=hid (show w2.heap[w1.heap.size]?=some (.cells #[.string ⟨#[]⟩,.int .i64 0,.bool false,.int .i64 0,.bool false] 116 (0,0))from(hk _ jc.out.size (by simp)).trans (iL w1 _));have HM:=hid hM;have Fy:=hid (show w.heap.size<=w1.heap.size/\w1.heap.size<(w1.alloc (.cells #[.string ⟨#[]⟩,.int .i64 0,.bool false,.int .i64 0,.bool false] 116)).heap.size from⟨jc.out.size,by simp⟩);have r0:=iG HR2.out (i:=0) (v:=.string ⟨#[]⟩) rfl;have k0:=iH HR2.out 0;have r1:=iG HR2.out (i:=1) (v:=.int .i64 0) rfl;have k1:=iH HR2.out 1;have r2:=iG HR2.out (i:=2) (v:=.bool false) rfl;have k2:=iH HR2.out 2;have r3:=iG HR2.out (i:=3) (v:=.int .i64 0) rfl;have k3:=iH HR2.out 3;have r4:=iG HR2.out (i:=4) (v:=.bool false) rfl;have k4:=iH HR2.out 4;clear hM hk)
  | (go_at_call 60;have hA:=HA;refine(JZ.out w1 jc.out).mono ?_;rintro e w2 ⟨rfl,hM,hk⟩;have HR2:=hid (show w2.heap[w.heap.size]?=some (.cells #[.string ⟨#[]⟩,.int .i64 0,.bool false,.int .i64 0,.bool false] 116 (0,0))from(hk _ (au _) (iO hA.out)).trans hA.out);have HM:=hid hM;have Fy:=hid (show w.heap.size<=w.heap.size/\w.heap.size<w1.heap.size from⟨au _,iO hA.out⟩);have r0:=iG HR2.out (i:=0) (v:=.string ⟨#[]⟩) rfl;have k0:=iH HR2.out 0;have r1:=iG HR2.out (i:=1) (v:=.int .i64 0) rfl;have k1:=iH HR2.out 1;have r2:=iG HR2.out (i:=2) (v:=.bool false) rfl;have k2:=iH HR2.out 2;have r3:=iG HR2.out (i:=3) (v:=.int .i64 0) rfl;have k3:=iH HR2.out 3;have r4:=iG HR2.out (i:=4) (v:=.bool false) rfl;have k4:=iH HR2.out 4;clear hM hk hA)
  | (go_at_call 60;refine(JZ.out w1 jc.out).mono ?_;rintro e w2 ⟨rfl,hM,hk⟩;have HM:=hid hM;clear hM hk)
  | (go_at_call 59;refine(Bf.out (w.drew.alloc (.cells #[.string ⟨#[]⟩,.int .i64 0,.bool false,.int .i64 0,.bool false] 116)) ((Fr.refl [] w).drew.alloc _)).mono ?_;rintro e w1 ⟨rfl,hf1⟩;have jc:=hid (show Fr [] w w1 from Fr.trans ((Fr.refl [] w).drew.alloc _) hf1);have HA:=hid (show w1.heap[w.heap.size]?=some (.cells #[.string ⟨#[]⟩,.int .i64 0,.bool false,.int .i64 0,.bool false] 116 (0,0))from iJ (iL w.drew _) hf1 aj);clear hf1)
  | (go_at_call 59;refine(Bf.out w.drew (Fr.refl [] w).drew).mono ?_;rintro e w1 ⟨rfl,hf1⟩;have jc:=hid (show Fr [] w w1 from Fr.trans (Fr.refl [] w).drew hf1);clear hf1))
 all_goals (
  go_wp2
  go_ret
  refine⟨rfl,?_⟩
  first | exact HM.out.alloc _ | exact ni HM.out (fr5 _ _ _ _ _ _ _) (.inr Fy.out.1))
theorem RU (B D lo hi:Nat)(R ao fo:Int)(l:List Int)(ab fb:Bool)(us rs:List Mo)(m:Mo)(w:World)(h:jY w B D R l ao ab fo fb us (rs++[m]) lo hi) :
 Calls prog 30 #[.pointer (some ⟨D,0,none⟩)] w fun e w'=>e=.returned (.bool true)/\∃lR mg mV mX,jY w' B D R m.l lR mg mV mX (us++[Mo.mk l ao ab fo fb]) rs w.heap.size w'.heap.size/\lM w w' B D:=by
 obtain⟨vB,Z,P,Bl,V,Ls,vU,vR,L,aim,goal,q1,q2,_⟩:=id h.x;have hDl:=iO q1;have Vj:(us++[Mo.mk l ao ab fo fb]).length+rs.length<=6:=by have:=h.n6;simp only[aD,bg,List.length_nil]at this ⊢;omega
 have Bf:=hid (fun(Y:World) (hf:Fr [] w Y)=>yu D Z P 2 10 20 R ao fo goal (tu l) vB vU vR ab fb aim Y (iJ q1 hf aj) (iJ q2 hf aj));have JZ:=hid (fun(Y:World) (hf:Fr [] w Y)=>RN B D lo hi R ao fo l ab fb us rs m w Y hf h);have U9:=hid (fun(Y:World) (hM:∃y,Mid w Y B D R (tu l) (us++[Mo.mk l ao ab fo fb]) rs y)=>yA D B R m.ao m.fo (tu l) m.l m.ab m.fb _ _ hM.choose w Y hM.choose_spec h.g h.bD h.b9 hDl h.r (h.mr m (by simp)) (fun x hx=>(a_.1 hx).elim (h.mu x) (fun e=>by rw[ak.1 e];exact h.t)) (fun x hx=>h.mr x (dO _ hx)) Vj);clear h q1 q2 Vj;go_enter func30,ntmps30;go_wp2_with fail
 go_region_with (first
  | (go_at_call 61;refine(JZ.out (w1.alloc (.cells #[.string ⟨#[]⟩,.int .i64 0,.bool false,.int .i64 0,.bool false] 116)) (jc.out.alloc _)).mono ?_;rintro e w2 ⟨rfl,hM,hk⟩;have HR2:=hid (show w2.heap[w1.heap.size]?=some (.cells #[.string ⟨#[]⟩,.int .i64 0,.bool false,.int .i64 0,.bool false] 116 (0,0))from(hk _ jc.out.size (by simp)).trans (iL w1 _));have HM:=hid hM;have Fy:=hid (show w.heap.size<=w1.heap.size/\w1.heap.size<(w1.alloc (.cells #[.string ⟨#[]⟩,.int .i64 0,.bool false,.int .i64 0,.bool false] 116)).heap.size from⟨jc.out.size,by simp⟩);have r0:=iG HR2.out (i:=0) (v:=.string ⟨#[]⟩) rfl;have k0:=iH HR2.out 0;have r1:=iG HR2.out (i:=1) (v:=.int .i64 0) rfl;have k1:=iH HR2.out 1;have r2:=iG HR2.out (i:=2) (v:=.bool false) rfl;have k2:=iH HR2.out 2;have r3:=iG HR2.out (i:=3) (v:=.int .i64 0) rfl;have k3:=iH HR2.out 3;have r4:=iG HR2.out (i:=4) (v:=.bool false) rfl;have k4:=iH HR2.out 4;clear hM hk)
  | (go_at_call 61;have hA:=HA;refine(JZ.out w1 jc.out).mono ?_;rintro e w2 ⟨rfl,hM,hk⟩;have HR2:=hid (show w2.heap[w.heap.size]?=some (.cells #[.string ⟨#[]⟩,.int .i64 0,.bool false,.int .i64 0,.bool false] 116 (0,0))from(hk _ (au _) (iO hA.out)).trans hA.out);have HM:=hid hM;have Fy:=hid (show w.heap.size<=w.heap.size/\w.heap.size<w1.heap.size from⟨au _,iO hA.out⟩);have r0:=iG HR2.out (i:=0) (v:=.string ⟨#[]⟩) rfl;have k0:=iH HR2.out 0;have r1:=iG HR2.out (i:=1) (v:=.int .i64 0) rfl;have k1:=iH HR2.out 1;have r2:=iG HR2.out (i:=2) (v:=.bool false) rfl;have k2:=iH HR2.out 2;have r3:=iG HR2.out (i:=3) (v:=.int .i64 0) rfl;have k3:=iH HR2.out 3;have r4:=iG HR2.out (i:=4) (v:=.bool false) rfl;have k4:=iH HR2.out 4;clear hM hk hA)
  | (go_at_call 61;refine(JZ.out w1 jc.out).mono ?_;rintro e w2 ⟨rfl,hM,hk⟩;have HM:=hid hM;clear hM hk)
  | (go_at_call 59;refine(Bf.out (w.drew.alloc (.cells #[.string ⟨#[]⟩,.int .i64 0,.bool false,.int .i64 0,.bool false] 116)) ((Fr.refl [] w).drew.alloc _)).mono ?_;rintro e w1 ⟨rfl,hf1⟩;have jc:=hid (show Fr [] w w1 from Fr.trans ((Fr.refl [] w).drew.alloc _) hf1);have HA:=hid (show w1.heap[w.heap.size]?=some (.cells #[.string ⟨#[]⟩,.int .i64 0,.bool false,.int .i64 0,.bool false] 116 (0,0))from iJ (iL w.drew _) hf1 aj);clear hf1)
  | (go_at_call 59;refine(Bf.out w.drew (Fr.refl [] w).drew).mono ?_;rintro e w1 ⟨rfl,hf1⟩;have jc:=hid (show Fr [] w w1 from Fr.trans (Fr.refl [] w).drew hf1);clear hf1))
 all_goals (
  go_wp2_with fail
  refine(U9.out _ (by first | exact⟨_,HM.out.fr ((Fr.refl [] _).alloc _)⟩ | exact⟨_,HM.out.set (fr5 _ _ _ _ _ _ _) Fy.out.1 Fy.out.2 hDl⟩)).mono ?_
  rintro e w4 ⟨rfl,hd,hc⟩
  have HD4:=hid hd
  have HC4:=hid hc
  clear hd hc
  go_wp2
  go_ret
  exact⟨rfl,_,_,_,_,HD4.out,HC4.out⟩)
theorem Vl (B D lo hi:Nat)(R ao fo:Int)(l:List Int)(ab fb:Bool)(us:List Mo)(w:World)(h:jY w B D R l ao ab fo fb us [] lo hi) :
 Calls prog 30 #[.pointer (some ⟨D,0,none⟩)] w fun e w'=>e=.returned (.bool false)/\Fr [] w w':=by
 obtain⟨vB,Z,P,Bl,V,Ls,vU,vR,L,aim,goal,q1,q2,_,q4,q5,_⟩:=id h.x;have hv:∃a c,vR=.slice a 0 c:=by
  obtain⟨a,c,e,_⟩:=Wr.jo q5;exact⟨a,c,e⟩
 obtain⟨av,cv,hv⟩:=hv;subst hv;have Bf:=hid (fun(Y:World) (hf:Fr [] w Y)=>yu D Z P 2 10 20 R ao fo goal (tu l) vB _ _ ab fb aim Y (iJ q1 hf aj) (iJ q2 hf aj));have JZ:=hid (fun(Y:World) (hf:Fr [] w Y)=>(Es D (tu l) ⟨#[]⟩ ao fo 0 0 ab fb false false false Y (fun Y1 w1=>Fr [] Y1 w1) (fun Y1 hf1 hlt=>(Hj D 8 _ _ av cv (tu l) ao fo ab fb Y1 (iJ (iJ q1 hf aj) hf1 aj) rfl).mono (fun e w' ⟨k1,k2⟩=>⟨k1,k2.block _ (by omega) aj,k2⟩))).mono (fun e w' ⟨k1,Y1,w1,k2,_,k3,k4⟩=>(⟨k1,ni ((hf.trans k2).trans k3) k4 (.inr (by have:=hf.size;omega)),fun k _ h2=>(ni (k2.trans k3) k4 (.inr (aF _)):Fr [] Y w').block k h2 aj⟩:_/\Fr [] w w'/\∀k,w.heap.size<=k->k<Y.heap.size->w'.heap[k]?=Y.heap[k]?)));clear h q1 q2 q4 q5;go_enter func30,ntmps30;go_wp2_with fail
 go_region_with (first
  | (go_at_call 61;refine(JZ.out (w1.alloc (.cells #[.string ⟨#[]⟩,.int .i64 0,.bool false,.int .i64 0,.bool false] 116)) (jc.out.alloc _)).mono ?_;rintro e w2 ⟨rfl,hM,hk⟩;have HR2:=hid (show w2.heap[w1.heap.size]?=some (.cells #[.string ⟨#[]⟩,.int .i64 0,.bool false,.int .i64 0,.bool false] 116 (0,0))from(hk _ jc.out.size (by simp)).trans (iL w1 _));have HM:=hid hM;have Fy:=hid (show w.heap.size<=w1.heap.size/\w1.heap.size<(w1.alloc (.cells #[.string ⟨#[]⟩,.int .i64 0,.bool false,.int .i64 0,.bool false] 116)).heap.size from⟨jc.out.size,by simp⟩);have r0:=iG HR2.out (i:=0) (v:=.string ⟨#[]⟩) rfl;have k0:=iH HR2.out 0;have r1:=iG HR2.out (i:=1) (v:=.int .i64 0) rfl;have k1:=iH HR2.out 1;have r2:=iG HR2.out (i:=2) (v:=.bool false) rfl;have k2:=iH HR2.out 2;have r3:=iG HR2.out (i:=3) (v:=.int .i64 0) rfl;have k3:=iH HR2.out 3;have r4:=iG HR2.out (i:=4) (v:=.bool false) rfl;have k4:=iH HR2.out 4;clear hM hk)
  | (go_at_call 61;have hA:=HA;refine(JZ.out w1 jc.out).mono ?_;rintro e w2 ⟨rfl,hM,hk⟩;have HR2:=hid (show w2.heap[w.heap.size]?=some (.cells #[.string ⟨#[]⟩,.int .i64 0,.bool false,.int .i64 0,.bool false] 116 (0,0))from(hk _ (au _) (iO hA.out)).trans hA.out);have HM:=hid hM;have Fy:=hid (show w.heap.size<=w.heap.size/\w.heap.size<w1.heap.size from⟨au _,iO hA.out⟩);have r0:=iG HR2.out (i:=0) (v:=.string ⟨#[]⟩) rfl;have k0:=iH HR2.out 0;have r1:=iG HR2.out (i:=1) (v:=.int .i64 0) rfl;have k1:=iH HR2.out 1;have r2:=iG HR2.out (i:=2) (v:=.bool false) rfl;have k2:=iH HR2.out 2;have r3:=iG HR2.out (i:=3) (v:=.int .i64 0) rfl;have k3:=iH HR2.out 3;have r4:=iG HR2.out (i:=4) (v:=.bool false) rfl;have k4:=iH HR2.out 4;clear hM hk hA)
  | (go_at_call 61;refine(JZ.out w1 jc.out).mono ?_;rintro e w2 ⟨rfl,hM,hk⟩;have HM:=hid hM;clear hM hk)
  | (go_at_call 59;refine(Bf.out (w.drew.alloc (.cells #[.string ⟨#[]⟩,.int .i64 0,.bool false,.int .i64 0,.bool false] 116)) ((Fr.refl [] w).drew.alloc _)).mono ?_;rintro e w1 ⟨rfl,hf1⟩;have jc:=hid (show Fr [] w w1 from Fr.trans ((Fr.refl [] w).drew.alloc _) hf1);have HA:=hid (show w1.heap[w.heap.size]?=some (.cells #[.string ⟨#[]⟩,.int .i64 0,.bool false,.int .i64 0,.bool false] 116 (0,0))from iJ (iL w.drew _) hf1 aj);clear hf1)
  | (go_at_call 59;refine(Bf.out w.drew (Fr.refl [] w).drew).mono ?_;rintro e w1 ⟨rfl,hf1⟩;have jc:=hid (show Fr [] w w1 from Fr.trans (Fr.refl [] w).drew hf1);clear hf1))
 all_goals (
  go_wp2
  go_ret
  refine⟨rfl,?_⟩
  first | exact HM.out.alloc _ | exact ni HM.out (fr5 _ _ _ _ _ _ _) (.inr Fy.out.1))
end Go.Proofs.YtnakejhohdbfdacGreatDoor.Cls.Dc

import Derived.Test.YtnakejhohdbfdacGreatDoorMax
import Derived.Shelf.SlIterI.Nil
import Derived.Shelf.SortM.Plain
import Derived.Shelf.SortM.SortNone
set_option maxHeartbeats 4000000
set_option maxRecDepth 100000
namespace Go.Proofs.YtnakejhohdbfdacGreatDoor
open Go.RowKit j9 Go.Shelf Go.Proofs.Tryz
attribute [local go_sem] gy
theorem nJ {n:Nat}{A B:World}(h:Below n A B):Fr ((List.range A.heap.size).filter (fun k=>decide (n<=k))) A B :=
 ⟨h.os,h.tape,h.output,h.size,fun k hk hn=>h.block k (Nat.lt_of_not_le (fun hle=>hn (dJ.2 ⟨cE.2 hk,bQ hle⟩)))⟩
theorem mB {n k:Nat}{A:World}(h:k<n):k ∉ (List.range A.heap.size).filter (fun k=>decide (n<=k)):=fun hm=>by
 have:=dD (dJ.1 hm).2;omega
theorem Fr.CK {T:List Nat}{w w':World}{n:Nat}(h:Fr T (w.drewN n) w'):Fr T w w':=⟨h.os,h.tape,h.output,h.size,h.block⟩
structure VS (w:World)(n:Nat)(q:UH)(L:List Int)(S Q cQ:Nat)(s:Sq)(lv:Int)(ff:Nat)(C:List Int)(A:World):Prop where
 v:VP q L S Q cQ s lv (w.heap.size+1) (w.heap.size+2) ff C A
 b0:A.cell? ⟨w.heap.size,0,none⟩=some (.pointer (some ⟨S,0,none⟩))
 f:Fr [q.U] w A
 n:n<=A.heap.size
theorem VS.below {w:World}{n:Nat}{q:UH}{L:List Int}{S Q cQ:Nat}{s:Sq}{lv:Int}{ff:Nat}{C:List Int}{A B:World}(h:VS w n q L S Q cQ s lv ff C A)(hn:n=w.heap.size+3)(hU:q.U<w.heap.size)(hS:S<w.heap.size)(hQ:0<s.I.length->Q<w.heap.size)(hb:Below n A B):VS w n q L S Q cQ s lv ff C B:=by
 have hf:=nJ hb;have z:∀ {k},k<w.heap.size->k ∉ (List.range A.heap.size).filter (fun k=>decide (n<=k)):=fun hk=>mB (by omega)
 refine⟨⟨h.v.u.fr hf (z hU),⟨hf.cell h.v.s.c0 (z hS),hf.cell h.v.s.c1 (z hS),hf.cell h.v.s.c2 (z hS),hf.cell h.v.s.c3 (z hS),fun k hk=>hf.cell (h.v.s.p k hk) (z (hQ (by omega))),h.v.s.lt,h.v.s.ne,h.v.s.sm,h.v.s.cp⟩,hf.cell h.v.b1 (mB (by omega)),hf.cell h.v.b2 (mB (by omega))⟩,hf.cell h.b0 (mB (by omega)),?_,by have:=h.n;have:=hb.size;omega⟩;exact⟨hb.os.trans h.f.os,hb.tape.trans h.f.tape,hb.output.trans h.f.output,aK h.f.size hb.size,fun k hk hm=>(hb.block k (by omega)).trans (h.f.block k hk hm)⟩
theorem VS.next {w:World}{n:Nat}{q:UH}{L:List Int}{S Q cQ:Nat}{s:Sq}{lv:Int}{ff:Nat}{C C':List Int}{A B:World}(h:VS w n q L S Q cQ s lv ff C A)(hU:q.U<w.heap.size)(hu:US B q C' L)(hf:Fr [q.U] A B):VS w n q L S Q cQ s lv ff C' B:=by
 have z:∀ {k},k≠q.U->k ∉ [q.U]:=fun hk hm=>hk (ak.1 hm)
 exact⟨⟨hu,h.v.s.fr hf (z h.v.s.ne.1) (z h.v.s.ne.2),hf.cell h.v.b1 (z (by omega)),hf.cell h.v.b2 (z (by omega))⟩,hf.cell h.b0 (z (by omega)),h.f.trans hf,aK h.n hf.size⟩
theorem VS.late {n:Nat}{q:UH}{A B:World}(hU:q.U<n)(hf:Fr [q.U] A B):∀k,n<=k->k<A.heap.size->B.heap[k]?=A.heap[k]?:=fun k h1 h2=>hf.block k h2 (fun hm=>by have:=ak.1 hm;omega)
theorem Ef (S ff:Nat)(w:World):Calls prog 191 #[.pointer (some ⟨S,0,none⟩),.func (.func ff) #[] #[]] w fun e w' =>
 e=.returned (.func (.func 219) #[] #[.pointer (some ⟨w.heap.size,0,none⟩),.pointer (some ⟨w.heap.size+1,0,none⟩)])/\w'=(w.alloc (.cells #[.pointer (some ⟨S,0,none⟩)] 263)).alloc (.cells #[.func (.func ff) #[] #[]] 268):=by
 go_enter func191,ntmps191;go_wp2;go_ret;exact⟨by simp,rfl⟩
theorem Qh (q:UH)(C L:List Int)(S Q cQ:Nat)(s:Sq)(lv:Int)(w:World)(hu:US w q C L)(hs:SS w q S Q cQ s lv)(h0:0<s.I.length) :
 Calls prog 182 #[.pointer (some ⟨S,0,none⟩)] w fun e w'=>e=.returned (.tuple #[])/\US w' q (scan s.I ED (qz s) C) L/\Fr [q.U] w w':=by
 have A6:q.U<w.heap.size:=fC _ _ (hu.r _ (hs.lt 0 h0));have hSw:S<w.heap.size:=fC _ _ hs.c0;have SF:Q<w.heap.size:=fC _ _ (hs.p 0 h0);have HU:=hid hu;have HS:=hid hs;have HST:=hid (fun w=>Ef S 209 w);have NS:=hid Pd;obtain⟨Z,hZ⟩:∃Z,Z=scan s.I ED (qz s) C:=⟨_,rfl⟩;rw[<-hZ];have HZ:=hid hZ;clear hu hs hZ;refine(fF (n:=3)).1 ?_;refine gI func182 rfl trivial ?_ rfl;simp only[ntmps182,cK,bg,List.length_nil,Nat.reduceAdd,Nat.reduceSub,bY,bZ,cN,b_,bT,bV];gi_wp2_with (refine⟨trivial,?_⟩;gi_at_call 191;refine(fF.2 (HST.out _)).mono ?_;rintro e w' ⟨rfl,rfl⟩);obtain⟨W0,hW0⟩:∃W0,((w.alloc (.cells #[.pointer (some ⟨S,0,none⟩)] 263)).alloc (.cells #[.pointer (some ⟨S,0,none⟩)] 263)).alloc (.cells #[.func (.func 209) #[] #[]] 268)=W0:=⟨_,rfl⟩;have hsz:W0.heap.size=w.heap.size+3:=by rw[<-hW0];simp
 have Aa:VS w W0.heap.size q L S Q cQ s lv 209 C W0:=by
  have hf:Fr [] w W0:=by rw[<-hW0];exact(((Fr.refl [] w).alloc _).alloc _).alloc _
  refine⟨⟨HU.out.fr hf aj,HS.out.fr hf aj aj,?_,?_⟩,?_,⟨hf.os,hf.tape,hf.output,hf.size,fun k hk _=>hf.block k hk aj⟩,au _⟩
  ·rw[<-hW0,gD (hn:=by simp),fX (hn:=by simp)];rfl
  ·rw[<-hW0,fX (hn:=by simp)];rfl
  ·rw[<-hW0,gD (hn:=by simp;omega),gD (hn:=by simp),fX (hn:=by simp)];rfl
 rw[hW0];refine vK rfl (by omega) (gf:=219) (lb:=#[.pointer (some ⟨w.heap.size+1,0,none⟩),.pointer (some ⟨w.heap.size+1+1,0,none⟩)]) rfl trivial (g_ func219 (by kernel_rfl) rfl)
  (encs:=fun x:Nat × Nat=>#[.int .i64 x.1,.int .i64 x.2]) (fun _=>rfl)
  (VS w W0.heap.size q L S Q cQ s lv 209) (fun _ _ h=>h.n) (fun _ _ _ h hb=>h.below hsz A6 hSw (fun _=>SF) hb)
  (fun _ x=>x.1<x.2/\x.2<=s.I.length) (fun C x=>qz s x.1 x.2 C) C Z
  (fun l V' W h1 h2 h3 h4=>by rw[HZ.out];exact CJ q L S Q cQ s lv _ _ ED (qz s) 209 (.inl rfl) NS.out _ l V' (fun C A h=>(h1 C A h).v) h2 h3 C W h4)
  (fun x=>{ tmps:=#[.pointer (some ⟨S,0,none⟩),.pointer (some ⟨w.heap.size,0,none⟩),.int .i64 x.1,.int .i64 x.2,.pointer (some ⟨S,0,none⟩),.func (.func 219) #[] #[.pointer (some ⟨w.heap.size+1,0,none⟩),.pointer (some ⟨w.heap.size+1+1,0,none⟩)],.int .i64 x.1,.int .i64 x.2,undef,undef,undef,undef,undef,undef,undef,undef,undef,undef,undef,undef,undef,undef],defers:=[] })
  Aa ?assign ?body ?done
 case assign =>
  intro l x W K hK;gi_wp2;exact hK
 case body =>
  rintro l C1 ⟨a,b⟩ A hV ⟨hab,X_⟩;dsimp only at hab X_ ⊢;have HV:=hid hV;have b0:=hV.b0;have My:=hid (fun B (hf:Fr [] A B)=>xQ q C1 L S Q cQ s lv a B (HV.out.v.u.fr hf aj) (HV.out.v.s.fr hf aj aj) (by omega));have Mz:=hid (fun B (hf:Fr [] A B)=>Cl q C1 L S Q cQ s lv b B (HV.out.v.u.fr hf aj) (HV.out.v.s.fr hf aj aj) X_);have MA:=hid (fun B (hf:Fr [] A B)=>Gh q C1 L S Q cQ s lv a b 3 B (HV.out.v.u.fr hf aj) (HV.out.v.s.fr hf aj aj) hab X_);have HE:=hid (show qz s a b C1=if ah s C1 a=3\/DU s C1 b=3 then kP s.I a 3 (b - a) C1 else C1 from rfl);generalize qz s a b C1=E at *;generalize ah s C1 a=y1 at *;generalize DU s C1 b=y2 at *;clear hV Aa hW0 NS HST;by_cases e1:y1=3
  ·have HE2:=hid (show E=kP s.I a 3 (b - a) C1 by rw[HE.out,aE (.inl e1)])
   subst e1;gi_wp2_with (refine⟨trivial,?_⟩;first | (gi_at_call 193;refine(fJ l (fF.2 (My.out _ (Fr.refl _ _)))).mono ?_;rintro e w' ⟨rfl,rfl⟩) | (gi_at_call 194;refine(fJ l (fF.2 (Mz.out _ (Fr.refl _ _)))).mono ?_;rintro e w' ⟨rfl,rfl⟩) | (gi_at_call 195;refine(fJ l (fF.2 (MA.out _ (Fr.refl _ _)))).mono ?_;rintro e w' ⟨rfl,hu',hf'⟩;have zk:=hid hu';have i_:=hid hf';clear hu' hf') | skip);exact⟨VS.late (by omega) i_.out,HV.out.next A6 (by rw[HE2.out];exact zk.out) i_.out⟩
  ·have e1':(y1 == 3)=false:=by simp[e1]
   by_cases e2:y2=3
   ·have HE2:=hid (show E=kP s.I a 3 (b - a) C1 by rw[HE.out,aE (.inr e2)])
    subst e2;gi_wp2_with (refine⟨trivial,?_⟩;first | (gi_at_call 193;refine(fJ l (fF.2 (My.out _ (Fr.refl _ _)))).mono ?_;rintro e w' ⟨rfl,rfl⟩) | (gi_at_call 194;refine(fJ l (fF.2 (Mz.out _ (Fr.refl _ _)))).mono ?_;rintro e w' ⟨rfl,rfl⟩) | (gi_at_call 195;refine(fJ l (fF.2 (MA.out _ (Fr.refl _ _)))).mono ?_;rintro e w' ⟨rfl,hu',hf'⟩;have zk:=hid hu';have i_:=hid hf';clear hu' hf') | skip);exact⟨VS.late (by omega) i_.out,HV.out.next A6 (by rw[HE2.out];exact zk.out) i_.out⟩
   ·have HE2:=hid (show E=C1 by rw[HE.out,ay (by omega)])
    have e2':(y2 == 3)=false:=by simp[e2]
    gi_wp2_with (refine⟨trivial,?_⟩;first | (gi_at_call 193;refine(fJ l (fF.2 (My.out _ (Fr.refl _ _)))).mono ?_;rintro e w' ⟨rfl,rfl⟩) | (gi_at_call 194;refine(fJ l (fF.2 (Mz.out _ (Fr.refl _ _)))).mono ?_;rintro e w' ⟨rfl,rfl⟩) | (gi_at_call 195;refine(fJ l (fF.2 (MA.out _ (Fr.refl _ _)))).mono ?_;rintro e w' ⟨rfl,hu',hf'⟩;have zk:=hid hu';have i_:=hid hf';clear hu' hf') | skip);exact⟨fun _ _ _=>rfl,by rw[HE2.out];exact HV.out⟩
 case done =>
  rintro D A hV hD hK;have HV:=hid hV;clear hV;gi_wp2;refine⟨by simp,.inl ⟨_,_,rfl,gG hK,?_⟩⟩;refine⟨_,iA rfl _ _ _,rfl,?_,?_⟩
  ·exact((HV.out.below hsz A6 hSw (fun _=>SF) (jB hD _)).v).u
  ·exact(HV.out.below hsz A6 hSw (fun _=>SF) (jB hD _)).f
theorem Qi (q:UH)(C L:List Int)(S Q cQ:Nat)(s:Sq)(lv:Int)(w:World)(hu:US w q C L)(hs:SS w q S Q cQ s lv)(h0:0<s.I.length)(hl:0<=lv)(ho:s.own=way lv) :
 Calls prog 141 #[.pointer (some ⟨S,0,none⟩)] w fun e w'=>e=.returned (.tuple #[])/\US w' q (scan s.I yS (m5 s) C) L/\Fr [q.U] w w':=by
 have A6:q.U<w.heap.size:=fC _ _ (hu.r _ (hs.lt 0 h0));have hSw:S<w.heap.size:=fC _ _ hs.c0;have SF:Q<w.heap.size:=fC _ _ (hs.p 0 h0);have HU:=hid hu;have HS:=hid hs;have HST:=hid (fun w=>Ef S 192 w);have NS:=hid Pa;have HO:=hid ho;obtain⟨Z,hZ⟩:∃Z,Z=scan s.I yS (m5 s) C:=⟨_,rfl⟩;rw[<-hZ];have HZ:=hid hZ;clear hu hs hZ ho;refine(fF (n:=3)).1 ?_;refine gI func141 rfl trivial ?_ rfl;simp only[ntmps141,cK,bg,List.length_nil,Nat.reduceAdd,Nat.reduceSub,bY,bZ,cN,b_,bT,bV];gi_wp2_with (refine⟨trivial,?_⟩;gi_at_call 191;refine(fF.2 (HST.out _)).mono ?_;rintro e w' ⟨rfl,rfl⟩);obtain⟨W0,hW0⟩:∃W0,((w.alloc (.cells #[.pointer (some ⟨S,0,none⟩)] 263)).alloc (.cells #[.pointer (some ⟨S,0,none⟩)] 263)).alloc (.cells #[.func (.func 192) #[] #[]] 268)=W0:=⟨_,rfl⟩;have hsz:W0.heap.size=w.heap.size+3:=by rw[<-hW0];simp
 have Aa:VS w W0.heap.size q L S Q cQ s lv 192 C W0:=by
  have hf:Fr [] w W0:=by rw[<-hW0];exact(((Fr.refl [] w).alloc _).alloc _).alloc _
  refine⟨⟨HU.out.fr hf aj,HS.out.fr hf aj aj,?_,?_⟩,?_,⟨hf.os,hf.tape,hf.output,hf.size,fun k hk _=>hf.block k hk aj⟩,au _⟩
  ·rw[<-hW0,gD (hn:=by simp),fX (hn:=by simp)];rfl
  ·rw[<-hW0,fX (hn:=by simp)];rfl
  ·rw[<-hW0,gD (hn:=by simp;omega),gD (hn:=by simp),fX (hn:=by simp)];rfl
 rw[hW0];refine vK rfl (by omega) (gf:=219) (lb:=#[.pointer (some ⟨w.heap.size+1,0,none⟩),.pointer (some ⟨w.heap.size+1+1,0,none⟩)]) rfl trivial (g_ func219 (by kernel_rfl) rfl)
  (encs:=fun x:Nat × Nat=>#[.int .i64 x.1,.int .i64 x.2]) (fun _=>rfl)
  (VS w W0.heap.size q L S Q cQ s lv 192) (fun _ _ h=>h.n) (fun _ _ _ h hb=>h.below hsz A6 hSw (fun _=>SF) hb)
  (fun _ x=>x.1<x.2/\x.2<=s.I.length) (fun C x=>m5 s x.1 x.2 C) C Z
  (fun l V' W h1 h2 h3 h4=>by rw[HZ.out];exact CJ q L S Q cQ s lv _ _ yS (m5 s) 192 (.inr rfl) NS.out _ l V' (fun C A h=>(h1 C A h).v) h2 h3 C W h4)
  (fun x=>{ tmps:=#[.pointer (some ⟨S,0,none⟩),.pointer (some ⟨w.heap.size,0,none⟩),.int .i64 x.1,.int .i64 x.2,undef,.pointer (some ⟨S,0,none⟩),.func (.func 219) #[] #[.pointer (some ⟨w.heap.size+1,0,none⟩),.pointer (some ⟨w.heap.size+1+1,0,none⟩)],.int .i64 x.1,.int .i64 x.2,undef,undef,undef,undef,undef,undef,undef,undef,undef,undef,undef,undef,undef,undef,undef,undef,undef],defers:=[] })
  Aa ?assign ?body ?done
 case assign =>
  intro l x W K hK;gi_wp2;exact hK
 case body =>
  rintro l C1 ⟨a,b⟩ A hV ⟨hab,X_⟩;dsimp only at hab X_ ⊢;have HV:=hid hV;have b0:=hV.b0;have My:=hid (fun B (hf:Fr [] A B)=>xQ q C1 L S Q cQ s lv a B (HV.out.v.u.fr hf aj) (HV.out.v.s.fr hf aj aj) (by omega));have Mz:=hid (fun B (hf:Fr [] A B)=>Cl q C1 L S Q cQ s lv b B (HV.out.v.u.fr hf aj) (HV.out.v.s.fr hf aj aj) X_);have MA:=hid (fun v B (hf:Fr [] A B)=>Gh q C1 L S Q cQ s lv a b v B (HV.out.v.u.fr hf aj) (HV.out.v.s.fr hf aj aj) hab X_);have Qj:=hid (fun B (hf:Fr [] A B)=>Cm q S Q cQ s lv B (HV.out.v.s.fr hf aj aj) hl);have HE:=hid (show m5 s a b C1=kP s.I a (if side (ah s C1 a)=side (DU s C1 b)then side (ah s C1 a)else way lv) (b - a) C1 by rw[m5,HO.out]);have l9:=hid (xP (ah s C1 a));have HS2:=hid (xP (DU s C1 b));generalize m5 s a b C1=E at *;generalize ah s C1 a=y1 at *;generalize DU s C1 b=y2 at *;generalize side y1=z1 at *;generalize side y2=z2 at *;generalize way lv=z3 at *;clear hV Aa hW0 NS HST;by_cases e1:z1=z2
  ·have HE2:=hid (show E=kP s.I a z1 (b - a) C1 by rw[HE.out,aE e1])
   subst e1;gi_wp2_with (refine⟨trivial,?_⟩;first | (gi_at_call 193;refine(fJ l (fF.2 (My.out _ (Fr.refl _ _)))).mono ?_;rintro e w' ⟨rfl,rfl⟩) | (gi_at_call 194;refine(fJ l (fF.2 (Mz.out _ (Fr.refl _ _)))).mono ?_;rintro e w' ⟨rfl,rfl⟩) | (gi_at_call 187;refine(fJ l (fF.2 (l9.out _))).mono ?_;clear l9;rintro e w' ⟨rfl,rfl⟩) | (gi_at_call 187;refine(fJ l (fF.2 (HS2.out _))).mono ?_;clear HS2;rintro e w' ⟨rfl,rfl⟩) | (gi_at_call 195;refine(fJ l (fF.2 (MA.out _ _ (Fr.refl _ _)))).mono ?_;rintro e w' ⟨rfl,hu',hf'⟩;have zk:=hid hu';have i_:=hid hf';clear hu' hf'));exact⟨VS.late (by omega) i_.out,HV.out.next A6 (by rw[HE2.out];exact zk.out) i_.out⟩
  ·have HE2:=hid (show E=kP s.I a z3 (b - a) C1 by rw[HE.out,ay e1])
   have e1':(z1 == z2)=false:=by simp[e1]
   gi_wp2_with (refine⟨trivial,?_⟩;first | (gi_at_call 193;refine(fJ l (fF.2 (My.out _ (Fr.refl _ _)))).mono ?_;rintro e w' ⟨rfl,rfl⟩) | (gi_at_call 194;refine(fJ l (fF.2 (Mz.out _ (Fr.refl _ _)))).mono ?_;rintro e w' ⟨rfl,rfl⟩) | (gi_at_call 187;refine(fJ l (fF.2 (l9.out _))).mono ?_;clear l9;rintro e w' ⟨rfl,rfl⟩) | (gi_at_call 187;refine(fJ l (fF.2 (HS2.out _))).mono ?_;clear HS2;rintro e w' ⟨rfl,rfl⟩) | (gi_at_call 188;refine(fJ l (fF.2 (Qj.out _ (Fr.refl _ _)))).mono ?_;rintro e w' ⟨rfl,mm,rfl⟩) | (gi_at_call 195;refine(fJ l (fF.2 (MA.out _ _ ((Fr.refl [] _).drewN _)))).mono ?_;rintro e w' ⟨rfl,hu',hf'⟩;have zk:=hid hu';have i_:=hid hf'.CK;clear hu' hf'));exact⟨VS.late (by omega) i_.out,HV.out.next A6 (by rw[HE2.out];exact zk.out) i_.out⟩
 case done =>
  rintro D A hV hD hK;have HV:=hid hV;clear hV;gi_wp2;refine⟨by simp,.inl ⟨_,_,rfl,gG hK,?_⟩⟩;refine⟨_,iA rfl _ _ _,rfl,?_,?_⟩
  ·exact((HV.out.below hsz A6 hSw (fun _=>SF) (jB hD _)).v).u
  ·exact(HV.out.below hsz A6 hSw (fun _=>SF) (jB hD _)).f
attribute [local go_sem] gy
theorem Fr.behind {T T':List Nat}{w w1 w2:World}(h:Fr T w w1)(k:Fr T' w1 w2)(hT:∀b∈T',w.heap.size<=b):Fr T w w2 :=
 ⟨k.os.trans h.os,k.tape.trans h.tape,k.output.trans h.output,aK h.size k.size,fun b hb hs=>(k.block b (aM hb h.size) (fun hm=>by have:=hT b hm;omega)).trans (h.block b hb hs)⟩
structure VB (q:UH)(C L:List Int)(S Q cQ:Nat)(s:Sq)(lv:Int)(bx i:Nat)(W:World):Prop where
 u:US W q C L
 s:SS W q S Q cQ s lv
 b:W.cell? ⟨bx,0,none⟩=some (.slice (some ⟨Q,0,none⟩) i cQ)
theorem Ji {s:Sq}{C:List Int}{k:Nat}(h:side (cl s.I C k)=-1):jS s C (k+1)=jS s C k:=by
 rw[jS,ay (by omega)]
theorem Jj {s:Sq}{C:List Int}{k:Nat}(h:side (cl s.I C k)≠-1):jS s C (k+1)=side (cl s.I C k):=by
 have:=sE (cl s.I C k);rw[jS,aE (by omega)]
theorem T4 (q:UH)(C L:List Int)(S Q cQ:Nat)(s:Sq)(lv:Int)(bx i:Nat)(hi:i<=s.I.length)(n l:Nat)(V':Nat->World->Prop)(T2:World->Prop)(We:∀j A,V' j A->VB q C L S Q cQ s lv bx i A)(_:∀C A B,V' C A->Fr [] A B->V' C B)
 (hY:∀j (x:Nat) A,V' j A->(j=x+1/\x<i)->YieldAt Fence.wide (n - 1) prog l #[.int .i64 x,.pointer (some ⟨q.U,iP s.I x * 4,none⟩)] A fun e B=>(e=.returned (.bool true)/\V' x B)\/(e=.returned (.bool false)/\T2 B)) (W:World) (h0:V' i W) :
 CallsIn Fence.wide n prog 225 (#[.func (.yield l) #[] #[]]++#[.pointer (some ⟨bx,0,none⟩)]) W fun e B=>(∃v,e=.returned v)/\(V' 0 B\/T2 B):=by
 have b:=(We _ _ h0).b;have sm:=(We _ _ h0).s.sm;have E3:=hid We;have HY:=hid hY;have H0:=hid h0;have hib:i<=1000000:=by omega
 clear We hY h0;refine callsIn_of_wp func225 rfl trivial ?_ rfl;simp only[ntmps225,cK,bg,List.length_nil,Nat.reduceAdd,Nat.reduceSub,bY,bZ,cN,b_,bT,bV];have hw0:IntKind.i64.wrap ((i:Int) - 1)=(i:Int) - 1:=by rw[fM];omega
 gi_wp2;clear b hw0;gi_loopw [3] (fun a wr=>∃(j:Nat),a=.int .i64 ((j:Int) - 1)/\j<=i/\Hid (V' j wr)) (fun a _=>(intOf a+1).toNat)
 case atStart=>exact⟨i,rfl,au _,H0⟩
 case round =>
  obtain⟨j,rfl,hj,HV⟩:=hrel
  rcases bO j with hj0 | hj0
  ·subst hj0
   gi_wp2;go_end0;exact⟨⟨_,rfl⟩,.inl HV.out⟩
  ·obtain⟨x,rfl⟩:∃x,j=x+1:=⟨j - 1,by omega⟩
   have hx:((x+1:Nat):Int) - 1=(x:Int):=by omega
   rw[hx];have b:=(E3.out _ _ HV.out).b;have p:=(E3.out _ _ HV.out).s.p x (by omega);have hxi:(x:Int)<(i:Int):=by omega
   have hx0:(0:Int)<=(x:Int):=by omega
   have hw0:IntKind.i64.wrap ((x:Int) - 1)=(x:Int) - 1:=by rw[fM];omega
   obtain⟨fn,tmps,assign,body,Ss,hR⟩:=HY.out (x+1) x wr HV.out ⟨rfl,by omega⟩;generalize iP s.I x=y at *;clear E3 HY hx;gi_wp2;refine⟨fun hd=>absurd hd (by decide),hR.mono ?_⟩;rintro e W3 (⟨rfl,Kw⟩ | ⟨rfl,hx3⟩)
   ·have Ft:=hid Kw
    clear Kw;gi_wp2;go_roundw
    case rel=>exact⟨x,by simp,by omega,Ft⟩
    case measure=>simp[intOf]
   ·have Cz:=hid hx3
    clear hx3;gi_wp2;refine fE (iA rfl _ _ _) rfl ?_;exact⟨⟨_,rfl⟩,.inr Cz.out⟩
theorem MB (Q i c:Nat)(w:World):Calls prog 218 #[.slice (some ⟨Q,0,none⟩) i c] w fun e w' =>
 e=.returned (.func (.func 225) #[] #[.pointer (some ⟨w.heap.size,0,none⟩)])/\w'=w.alloc (.cells #[.slice (some ⟨Q,0,none⟩) i c] 297):=by
 go_enter func218,ntmps218;go_wp2;go_ret;exact⟨by simp,rfl⟩
structure VA (w:World)(n:Nat)(q:UH)(C L:List Int)(S Q cQ:Nat)(s:Sq)(lv:Int)(i j:Nat)(A:World):Prop where
 v:VB q C L S Q cQ s lv (w.heap.size+1) i A
 r:A.cell? ⟨w.heap.size,0,none⟩=some (.int .i64 0)
 rf:A.frozen? ⟨w.heap.size,0,none⟩=false
 f:Fr [] w A
 n:n<=A.heap.size
 e:jS s C i=jS s C j
theorem VA.below {w:World}{n:Nat}{q:UH}{C L:List Int}{S Q cQ:Nat}{s:Sq}{lv:Int}{i j:Nat}{A B:World}(h:VA w n q C L S Q cQ s lv i j A)(hn:n=w.heap.size+2)(hU:q.U<w.heap.size)(hS:S<w.heap.size)(hQ:0<s.I.length->Q<w.heap.size)(hb:Below n A B):VA w n q C L S Q cQ s lv i j B:=by
 have hf:=nJ hb;have z:∀ {k},k<w.heap.size->k ∉ (List.range A.heap.size).filter (fun k=>decide (n<=k)):=fun hk=>mB (by omega)
 refine⟨⟨h.v.u.fr hf (z hU),⟨hf.cell h.v.s.c0 (z hS),hf.cell h.v.s.c1 (z hS),hf.cell h.v.s.c2 (z hS),hf.cell h.v.s.c3 (z hS),fun k hk=>hf.cell (h.v.s.p k hk) (z (hQ (by omega))),h.v.s.lt,h.v.s.ne,h.v.s.sm,h.v.s.cp⟩,hf.cell h.v.b (mB (by omega))⟩,hf.cell h.r (mB (by omega)),hf.mq h.r (mB (by omega)) h.rf,?_,by have:=h.n;have:=hb.size;omega,h.e⟩;exact⟨hb.os.trans h.f.os,hb.tape.trans h.f.tape,hb.output.trans h.f.output,aK h.f.size hb.size,fun k hk hm=>(hb.block k (by omega)).trans (h.f.block k hk hm)⟩
theorem qO {w A B:World}{n:Nat}(h:Fr [] w A)(hb:Below n A B)(hn:w.heap.size<=n):Fr [] w B :=
 ⟨hb.os.trans h.os,hb.tape.trans h.tape,hb.output.trans h.output,aK h.size hb.size,fun k hk hm=>(hb.block k (by omega)).trans (h.block k hk hm)⟩
theorem T5 (q:UH)(C L:List Int)(S Q cQ:Nat)(s:Sq)(lv:Int)(i:Nat)(w:World)(hu:US w q C L)(hs:SS w q S Q cQ s lv)(hi:i<s.I.length)(hb:s.kE=0\/s.kE=1) :
 Calls prog 190 #[.pointer (some ⟨S,0,none⟩),.int .i64 i] w fun e w'=>e=.returned (.int .i64 (jS s C i))/\Fr [] w w':=by
 have A6:q.U<w.heap.size:=fC _ _ (hu.r _ (hs.lt 0 (by omega)));have hSw:S<w.heap.size:=fC _ _ hs.c0;have SF:Q<w.heap.size:=fC _ _ (hs.p 0 (by omega));have HU:=hid hu;have HS:=hid hs;have c0:=hs.c0;have cp:=hs.cp;have sm:=hs.sm;have HST:=hid (fun w=>MB Q i cQ w);have HB:=hid (show jS s C 0=s.kE by rw[jS];rcases hb with e | e <;> rw[e] <;> rfl);obtain⟨Z,hZ⟩:∃Z,Z=jS s C i:=⟨_,rfl⟩;rw[<-hZ];have HZ:=hid hZ;obtain⟨m,hm⟩:∃m,m=s.I.length:=⟨_,rfl⟩;have HM:=hid hm;rw[<-hm]at c0 sm hi cp;have hi1:(i:Int)<=(cQ:Int):=by omega
 have hi2:(0:Int)<=(i:Int):=by omega
 clear hu hs hZ hb hm;refine(fF (n:=3)).1 ?_;refine gI func190 rfl trivial ?_ rfl;simp only[ntmps190,cK,bg,List.length_nil,Nat.reduceAdd,Nat.reduceSub,bY,bZ,cN,b_,bT,bV];gi_wp2_with (refine⟨trivial,?_⟩;gi_at_call 218;refine(fF.2 (HST.out _)).mono ?_;rintro e w' ⟨rfl,rfl⟩);obtain⟨W0,hW0⟩:∃W0,(w.alloc (.cells #[.int .i64 0] 49)).alloc (.cells #[.slice (some ⟨Q,0,none⟩) i cQ] 297)=W0:=⟨_,rfl⟩;have hsz:W0.heap.size=w.heap.size+2:=by rw[<-hW0];simp
 have Aa:VA w W0.heap.size q C L S Q cQ s lv i i W0:=by
  have hf:Fr [] w W0:=by rw[<-hW0];exact((Fr.refl [] w).alloc _).alloc _
  have k1:(w.alloc (.cells #[.int .i64 0] 49)).cell? ⟨w.heap.size,0,none⟩=some (.int .i64 0):=by rw[fX (hn:=rfl)];rfl
  refine⟨⟨HU.out.fr hf aj,HS.out.fr hf aj aj,?_⟩,?_,?_,hf,au _,rfl⟩
  ·rw[<-hW0,fX (hn:=by simp)];rfl
  ·rw[<-hW0,gD (hn:=by simp)];exact k1
  ·rw[<-hW0];exact((Fr.refl [] (w.alloc (.cells #[.int .i64 0] 49))).alloc _).mq k1 aj (by simp)
 rw[hW0];refine DF rfl (by omega) (gf:=225) (lb:=#[.pointer (some ⟨w.heap.size+1,0,none⟩)]) rfl trivial (g_ func225 (by kernel_rfl) rfl)
  (encs:=fun x:Nat=>#[.int .i64 x,.pointer (some ⟨q.U,iP s.I x * 4,none⟩)]) (fun _=>rfl)
  (VA w W0.heap.size q C L S Q cQ s lv i) (fun A=>A.cell? ⟨w.heap.size,0,none⟩=some (.int .i64 Z)/\Fr [] w A) (fun _ _ h=>h.n) (fun _ _ _ h hb=>h.below hsz A6 hSw (fun _=>SF) hb)
  (fun A B h hb=>⟨(nJ hb).cell h.1 (mB (by omega)),qO h.2 hb (by omega)⟩)
  (fun j x=>j=x+1/\x<i) (fun _ x=>x) i 0
  (fun l V' T2 W h1 h2 h3 h4=>T4 q C L S Q cQ s lv _ i (by rw[<-HM.out];omega) _ l V' T2 (fun C A h=>(h1 C A h).v) h2 h3 W h4)
  (fun x=>{ tmps:=#[.pointer (some ⟨S,0,none⟩),.int .i64 i,undef,undef,.pointer (some ⟨w.heap.size,0,none⟩),undef,.pointer (some ⟨q.U,iP s.I x * 4,none⟩),undef,.pointer (some ⟨S,0,none⟩),.pointer (some ⟨S,0,none⟩),.pointer (some ⟨S,0,none⟩),.slice (some ⟨Q,0,none⟩) m cQ,.int .i64 i,.slice (some ⟨Q,0,none⟩) i cQ,.func (.func 225) #[] #[.pointer (some ⟨w.heap.size+1,0,none⟩)],.int .i64 x,.pointer (some ⟨q.U,iP s.I x * 4,none⟩),undef,undef,undef,undef,undef,undef,undef,undef,undef,undef,undef,undef],defers:=[] })
  Aa ?assign ?body ?done ?stop
 case assign =>
  intro l x W K hK;gi_wp2;exact hK
 case body =>
  rintro l j x A hV ⟨rfl,hx⟩;have HV:=hid hV;have p2:=hV.v.u.c _ (hV.v.s.lt x (by rw[<-HM.out];omega));have r0:=hV.r;have rf:=hV.rf;have l9:=hid (xP (cl s.I C x));have HE0:=hid (fun h=>Ji (s:=s) (C:=C) (k:=x) h);have kX:=hid (fun h=>Jj (s:=s) (C:=C) (k:=x) h);have SG:=hid (HZ.out.trans hV.e);dsimp only[cl]at *;generalize iP s.I x=y at *;generalize nth C y=c at *;generalize hz:side c=z at *;clear hz hV Aa hW0 HST c0;by_cases e1:z=-1
  ·have HE2:=hid (HE0.out e1)
   subst e1;gi_wp2_with (refine⟨trivial,?_⟩;gi_at_call 187;refine(fJ l (fF.2 (l9.out _))).mono ?_;rintro e w' ⟨rfl,rfl⟩);exact⟨fun _ _ _=>rfl,⟨HV.out.v,HV.out.r,HV.out.rf,HV.out.f,HV.out.n,HV.out.e.trans HE2.out⟩⟩
  ·have HE2:=hid (SG.out.trans (kX.out e1))
   have e1':(z == -1)=false:=by simp[e1]
   gi_wp2_with (refine⟨trivial,?_⟩;gi_at_call 187;refine(fJ l (fF.2 (l9.out _))).mono ?_;rintro e w' ⟨rfl,rfl⟩);refine⟨fun k hk hk2=>fP _ _ _ _ (by dsimp only;omega),?_,?_⟩
   ·rw[HE2.out];exact gU _ _ _ (by rw[r0];rfl)
   ·exact HV.out.f.behind (jT _ _ _ _) (fun b hb=>by rw[ak.1 hb];exact au _)
 case done =>
  rintro D A hV hD hK;have HV:=hid hV;have c2:=hV.v.s.c2;have r0:=hV.r;have rf:=hV.rf;have hZb:s.kE=Z:=by rw[HZ.out,hV.e,HB.out]
  rw[hZb]at c2;clear hV Aa hW0 hZb;gi_wp2;have hK':(A.setCell ⟨w.heap.size,0,none⟩ (.int .i64 Z)).heap[D]?=some (.deferred (some [])):=(fP _ _ _ _ (by dsimp only;omega)).trans hK;refine⟨by simp,.inl ⟨_,_,rfl,gG hK',?_⟩⟩;have hc5:((A.setCell ⟨w.heap.size,0,none⟩ (.int .i64 Z)).putObj D (.deferred none)).cell? ⟨w.heap.size,0,none⟩=some (.int .i64 Z):=(nJ (jB (B:=W0.heap.size) hD (.deferred none))).cell (gU _ _ _ (by rw[r0];rfl)) (mB (by omega));refine⟨.int .i64 Z,?_,rfl,qO (HV.out.f.behind (jT _ _ _ _) (fun b hb=>by rw[ak.1 hb];exact au _)) (jB (B:=W0.heap.size) hD (.deferred none)) (by omega)⟩;simp[results,Tryz.f190,go_sem,hc5]
 case stop =>
  rintro D A ⟨hc,hf⟩ hD hK;clear Aa hW0;gi_wp2;refine⟨by simp,.inl ⟨_,_,rfl,gG hK,?_⟩⟩;have hc5:(A.putObj D (.deferred none)).cell? ⟨w.heap.size,0,none⟩=some (.int .i64 Z):=(nJ (jB (B:=W0.heap.size) hD (.deferred none))).cell hc (mB (by omega));refine⟨.int .i64 Z,?_,rfl,qO hf (jB (B:=W0.heap.size) hD (.deferred none)) (by omega)⟩;simp[results,Tryz.f190,go_sem,hc5]
end Go.Proofs.YtnakejhohdbfdacGreatDoor
namespace Go.Proofs
open Go.Shelf Go.Proofs.Tryz
def Tryz.Eg:Go.Shelf.Ren:=⟨fun | 7=>186 | 10=>216 | n=>n,fun | 23=>258 | 26=>3 | 3=>3 | 28=>305 | 0=>0 | 27=>304 | 33=>159 | 4=>4 | n=>n,fun | n=>n⟩
theorem Tryz.Wf:Go.Proofs.SlLaysZI.n7 prog Tryz.Eg:={
 mixed:=by kernel_rfl
 f7:=⟨Tryz.f186.name,by decide,Tryz.func186.trans (congrArg some (by kernel_rfl))⟩
 f10:=⟨Tryz.f216.name,by decide,Tryz.func216.trans (congrArg some (by kernel_rfl))⟩
 t0:=underlying0
 a0:=isAgg0
 z0:=sizeOf0
 v0:=zeroValue0
 t4:=underlying4
 a4:=isAgg4
 z4:=sizeOf4
 v4:=zeroValue4
 t23:=underlying258
 a23:=isAgg258
 z23:=sizeOf258
 v23:=zeroValue258
 t26:=underlying3
 a26:=isAgg3
 z26:=sizeOf3
 v26:=zeroValue3
 t27:=underlying304
 a27:=isAgg304
 z27:=sizeOf304
 v27:=zeroValue304
 t28:=underlying305
 a28:=isAgg305
 z28:=sizeOf305
 v28:=zeroValue305
 t33:=underlying159
 a33:=isAgg159
 z33:=sizeOf159
 v33:=zeroValue159 }
def Tryz.Al:Go.Shelf.Ren:=⟨fun | 6=>185 | 8=>214 | 9=>215 | 11=>222 | 13=>224 | 12=>223 | 23=>234 | 24=>235 | 14=>226 | 15=>227 | 16=>228 | 17=>229 | 18=>230 | 19=>231 | 20=>117 | 21=>232 | 22=>233 | 25=>236 | 26=>237 | 27=>238 | 28=>239 | 29=>240 | 30=>150 | 31=>241 | n=>n,fun | 26=>3 | 28=>305 | 24=>32 | 0=>0 | 3=>3 | 37=>224 | 48=>272 | 50=>346 | 4=>4 | 40=>339 | 39=>338 | 45=>163 | 5=>5 | 9=>9 | 51=>347 | 55=>351 | 57=>353 | 58=>194 | 33=>159 | n=>n,fun | n=>n⟩
theorem Tryz.T6:Go.Proofs.SlLaysZI.n6 prog Tryz.Al:={
 mixed:=by kernel_rfl
 f6:=⟨Tryz.f185.name,by decide,Tryz.func185.trans (congrArg some (by kernel_rfl))⟩
 f8:=⟨Tryz.f214.name,by decide,Tryz.func214.trans (congrArg some (by kernel_rfl))⟩
 f11:=⟨Tryz.f222.name,by decide,Tryz.func222.trans (congrArg some (by kernel_rfl))⟩
 t0:=underlying0
 a0:=isAgg0
 z0:=sizeOf0
 v0:=zeroValue0
 t24:=underlying32
 a24:=isAgg32
 z24:=sizeOf32
 v24:=zeroValue32
 t26:=underlying3
 a26:=isAgg3
 z26:=sizeOf3
 v26:=zeroValue3
 t28:=underlying305
 a28:=isAgg305
 z28:=sizeOf305
 v28:=zeroValue305
 i26:=by kernel_rfl }
def Tryz.MC:Go.Shelf.Ren:=⟨fun | 5=>215 | 8=>224 | 7=>223 | 19=>234 | 20=>235 | 10=>226 | 11=>227 | 12=>228 | 13=>229 | 14=>230 | 15=>231 | 16=>117 | 17=>232 | 18=>233 | 30=>236 | 31=>237 | 32=>238 | 33=>239 | 34=>240 | 35=>150 | 40=>241 | n=>n,fun | 23=>32 | 25=>3 | 3=>3 | 32=>224 | 22=>32 | 0=>0 | 44=>272 | 46=>346 | 4=>4 | 36=>339 | 35=>338 | 41=>163 | 5=>5 | 9=>9 | 53=>347 | 57=>351 | 63=>353 | 64=>194 | n=>n,fun | n=>n⟩
theorem Tryz.Wg:Go.Proofs.SlLaysM.n5 prog Tryz.MC:={
 mixed:=by kernel_rfl
 f5:=⟨Tryz.f215.name,by decide,Tryz.func215.trans (congrArg some (by kernel_rfl))⟩
 f7:=⟨Tryz.f223.name,by decide,Tryz.func223.trans (congrArg some (by kernel_rfl))⟩
 f8:=Tryz.func224.trans (congrArg some (by kernel_rfl))
 f10:=⟨Tryz.f226.name,by decide,Tryz.func226.trans (congrArg some (by kernel_rfl))⟩
 f11:=⟨Tryz.f227.name,by decide,Tryz.func227.trans (congrArg some (by kernel_rfl))⟩
 f12:=⟨Tryz.f228.name,by decide,Tryz.func228.trans (congrArg some (by kernel_rfl))⟩
 f13:=⟨Tryz.f229.name,by decide,Tryz.func229.trans (congrArg some (by kernel_rfl))⟩
 f14:=⟨Tryz.f230.name,by decide,Tryz.func230.trans (congrArg some (by kernel_rfl))⟩
 f15:=⟨Tryz.f231.name,by decide,Tryz.func231.trans (congrArg some (by kernel_rfl))⟩
 f16:=⟨Tryz.f117.name,by decide,Tryz.func117.trans (congrArg some (by kernel_rfl))⟩
 f17:=⟨Tryz.f232.name,by decide,Tryz.func232.trans (congrArg some (by kernel_rfl))⟩
 f18:=⟨Tryz.f233.name,by decide,Tryz.func233.trans (congrArg some (by kernel_rfl))⟩
 f19:=Tryz.func234.trans (congrArg some (by kernel_rfl))
 f20:=Tryz.func235.trans (congrArg some (by kernel_rfl))
 f30:=⟨Tryz.f236.name,by decide,Tryz.func236.trans (congrArg some (by kernel_rfl))⟩
 f31:=Tryz.func237.trans (congrArg some (by kernel_rfl))
 f32:=Tryz.func238.trans (congrArg some (by kernel_rfl))
 f33:=⟨Tryz.f239.name,by decide,Tryz.func239.trans (congrArg some (by kernel_rfl))⟩
 f34:=⟨Tryz.f240.name,by decide,Tryz.func240.trans (congrArg some (by kernel_rfl))⟩
 f35:=⟨Tryz.f150.name,by decide,Tryz.func150.trans (congrArg some (by kernel_rfl))⟩
 f40:=⟨Tryz.f241.name,by decide,Tryz.func241.trans (congrArg some (by kernel_rfl))⟩
 t0:=underlying0
 a0:=isAgg0
 z0:=sizeOf0
 v0:=zeroValue0
 t3:=underlying3
 a3:=isAgg3
 z3:=sizeOf3
 v3:=zeroValue3
 t4:=underlying4
 a4:=isAgg4
 z4:=sizeOf4
 v4:=zeroValue4
 t5:=underlying5
 a5:=isAgg5
 z5:=sizeOf5
 v5:=zeroValue5
 t9:=underlying9
 a9:=isAgg9
 z9:=sizeOf9
 v9:=zeroValue9
 t22:=underlying32
 a22:=isAgg32
 z22:=sizeOf32
 v22:=zeroValue32
 t23:=underlying32
 a23:=isAgg32
 z23:=sizeOf32
 v23:=zeroValue32
 t25:=underlying3
 a25:=isAgg3
 z25:=sizeOf3
 v25:=zeroValue3
 t32:=underlying224
 a32:=isAgg224
 z32:=sizeOf224
 v32:=zeroValue224
 t35:=underlying338
 a35:=isAgg338
 z35:=sizeOf338
 v35:=zeroValue338
 t36:=underlying339
 a36:=isAgg339
 z36:=sizeOf339
 v36:=zeroValue339
 t41:=underlying163
 a41:=isAgg163
 z41:=sizeOf163
 v41:=zeroValue163
 t44:=underlying272
 a44:=isAgg272
 z44:=sizeOf272
 v44:=zeroValue272
 t46:=underlying346
 a46:=isAgg346
 z46:=sizeOf346
 v46:=zeroValue346
 t53:=underlying347
 a53:=isAgg347
 z53:=sizeOf347
 v53:=zeroValue347
 t57:=underlying351
 a57:=isAgg351
 z57:=sizeOf351
 v57:=zeroValue351
 t63:=underlying353
 a63:=isAgg353
 z63:=sizeOf353
 v63:=zeroValue353
 t64:=underlying194
 a64:=isAgg194
 z64:=sizeOf194
 v64:=zeroValue194 }
end Go.Proofs

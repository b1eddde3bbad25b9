import Derived.Test.YtnakejhohdbfdaaGreatDoorVbf
import Derived.Shelf.SlIterI.Nil
import Derived.Shelf.SortM.Plain
import Derived.Shelf.SortM.SortNone
import Derived.Test.YtnakejhohdbfdaaGreatDoorVbd
import Derived.Maps.OwnOps
import Derived.WalkMore
import Derived.Deep.LoopGhost
import Derived.Test.YtnakejhohdbfdaaGreatDoorVax
set_option maxHeartbeats 8000000
set_option maxRecDepth 100000
set_option linter.unusedSimpArgs false
namespace Go.Proofs.YtnakejhohdbfdaaGreatDoor
open Go.RowKit jN Go.Shelf Go.Proofs.Tryz
attribute [local go_sem] Oper.semAt_some
theorem nk {n:Nat}{A B:World}(h:Below n A B):Fr ((List.range A.heap.size).filter (fun k=>decide (n<=k))) A B :=
 ⟨h.os,h.tape,h.output,h.size,fun k hk hn=>h.block k (Nat.lt_of_not_le (fun hle=>hn (dK.2 ⟨bS.2 hk,aZ hle⟩)))⟩
theorem lE {n k:Nat}{A:World}(h:k<n):k ∉ (List.range A.heap.size).filter (fun k=>decide (n<=k)):=fun hm=>by
 have:=dz (dK.1 hm).2;omega
theorem Fr.CW {T:List Nat}{w w':World}{n:Nat}(h:Fr T (w.drewN n) w'):Fr T w w':=⟨h.os,h.tape,h.output,h.size,h.block⟩
structure VS (w:World)(n:Nat)(q:UH)(L:List Int)(S Q cQ:Nat)(s:Sq)(lv:Int)(ff:Nat)(C:List Int)(A:World):Prop where
 v:VP q L S Q cQ s lv (w.heap.size+1) (w.heap.size+2) ff C A
 b0:A.cell? ⟨w.heap.size,0,none⟩=some (.pointer (some ⟨S,0,none⟩))
 f:Fr [q.U] w A
 n:n<=A.heap.size
theorem VS.below {w:World}{n:Nat}{q:UH}{L:List Int}{S Q cQ:Nat}{s:Sq}{lv:Int}{ff:Nat}{C:List Int}{A B:World}(h:VS w n q L S Q cQ s lv ff C A)(hn:n=w.heap.size+3)(hU:q.U<w.heap.size)(hS:S<w.heap.size)(hQ:0<s.I.length->Q<w.heap.size)(hb:Below n A B):VS w n q L S Q cQ s lv ff C B:=by
 have hf:=nk hb;have z:∀ {k},k<w.heap.size->k ∉ (List.range A.heap.size).filter (fun k=>decide (n<=k)):=fun hk=>lE (by omega)
 refine⟨⟨h.v.u.fr hf (z hU),⟨hf.cell h.v.s.c0 (z hS),hf.cell h.v.s.c1 (z hS),hf.cell h.v.s.c2 (z hS),hf.cell h.v.s.c3 (z hS),fun k hk=>hf.cell (h.v.s.p k hk) (z (hQ (by omega))),h.v.s.lt,h.v.s.ne,h.v.s.sm,h.v.s.cp⟩,hf.cell h.v.b1 (lE (by omega)),hf.cell h.v.b2 (lE (by omega))⟩,hf.cell h.b0 (lE (by omega)),?_,by have:=h.n;have:=hb.size;omega⟩;exact⟨hb.os.trans h.f.os,hb.tape.trans h.f.tape,hb.output.trans h.f.output,a_ h.f.size hb.size,fun k hk hm=>(hb.block k (by omega)).trans (h.f.block k hk hm)⟩
theorem VS.next {w:World}{n:Nat}{q:UH}{L:List Int}{S Q cQ:Nat}{s:Sq}{lv:Int}{ff:Nat}{C C':List Int}{A B:World}(h:VS w n q L S Q cQ s lv ff C A)(hU:q.U<w.heap.size)(hu:US B q C' L)(hf:Fr [q.U] A B):VS w n q L S Q cQ s lv ff C' B:=by
 have z:∀ {k},k≠q.U->k ∉ [q.U]:=fun hk hm=>hk (aj.1 hm)
 exact⟨⟨hu,h.v.s.fr hf (z h.v.s.ne.1) (z h.v.s.ne.2),hf.cell h.v.b1 (z (by omega)),hf.cell h.v.b2 (z (by omega))⟩,hf.cell h.b0 (z (by omega)),h.f.trans hf,a_ h.n hf.size⟩
theorem VS.late {n:Nat}{q:UH}{A B:World}(hU:q.U<n)(hf:Fr [q.U] A B):∀k,n<=k->k<A.heap.size->B.heap[k]?=A.heap[k]?:=fun k h1 h2=>hf.block k h2 (fun hm=>by have:=aj.1 hm;omega)
theorem EM (S ff:Nat)(w:World):Calls prog 153 #[.pointer (some ⟨S,0,none⟩),.func (.func ff) #[] #[]] w fun e w' =>
 e=.returned (.func (.func 199) #[] #[.pointer (some ⟨w.heap.size,0,none⟩),.pointer (some ⟨w.heap.size+1,0,none⟩)])/\w'=(w.alloc (.cells #[.pointer (some ⟨S,0,none⟩)] 140)).alloc (.cells #[.func (.func ff) #[] #[]] 238):=by
 go_enter func153,ntmps153;go_wp2;go_ret;exact⟨by simp,rfl⟩
theorem RC (q:UH)(C L:List Int)(S Q cQ:Nat)(s:Sq)(lv:Int)(w:World)(hu:US w q C L)(hs:SS w q S Q cQ s lv)(h0:0<s.I.length) :
 Calls prog 144 #[.pointer (some ⟨S,0,none⟩)] w fun e w'=>e=.returned (.tuple #[])/\US w' q (scan s.I qm (kA s) C) L/\Fr [q.U] w w':=by
 have Ba:q.U<w.heap.size:=eS _ _ (hu.r _ (hs.lt 0 h0));have hSw:S<w.heap.size:=eS _ _ hs.c0;have Tp:Q<w.heap.size:=eS _ _ (hs.p 0 h0);have HU:=hid hu;have HS:=hid hs;have HST:=hid (fun w=>EM S 189 w);have Ey:=hid PE;obtain⟨Z,hZ⟩:∃Z,Z=scan s.I qm (kA s) C:=⟨_,rfl⟩;rw[<-hZ];have HZ:=hid hZ;clear hu hs hZ;refine(eX (n:=3)).1 ?_;refine callsIn_of_wp_marks func144 rfl trivial ?_ rfl;simp only[ntmps144,dD,bO,List.length_nil,Nat.reduceAdd,Nat.reduceSub,cY,cZ,dF,dw,bU,b8];gi_wp2_with (refine⟨trivial,?_⟩;gi_at_call 153;refine(eX.2 (HST.out _)).mono ?_;rintro e w' ⟨rfl,rfl⟩);obtain⟨W0,hW0⟩:∃W0,((w.alloc (.cells #[.pointer (some ⟨S,0,none⟩)] 140)).alloc (.cells #[.pointer (some ⟨S,0,none⟩)] 140)).alloc (.cells #[.func (.func 189) #[] #[]] 238)=W0:=⟨_,rfl⟩;have hsz:W0.heap.size=w.heap.size+3:=by rw[<-hW0];simp
 have FX:VS w W0.heap.size q L S Q cQ s lv 189 C W0:=by
  have hf:Fr [] w W0:=by rw[<-hW0];exact(((Fr.refl [] w).alloc _).alloc _).alloc _
  refine⟨⟨HU.out.fr hf af,HS.out.fr hf af af,?_,?_⟩,?_,⟨hf.os,hf.tape,hf.output,hf.size,fun k hk _=>hf.block k hk af⟩,ak _⟩
  ·rw[<-hW0,fJ (hn:=by simp),eZ (hn:=by simp)];rfl
  ·rw[<-hW0,eZ (hn:=by simp)];rfl
  ·rw[<-hW0,fJ (hn:=by simp;omega),fJ (hn:=by simp),eZ (hn:=by simp)];rfl
 rw[hW0];refine vT rfl (by omega) (gf:=199) (lb:=#[.pointer (some ⟨w.heap.size+1,0,none⟩),.pointer (some ⟨w.heap.size+1+1,0,none⟩)]) rfl trivial (enters_of func199 (by kernel_rfl) rfl)
  (encs:=fun x:Nat × Nat=>#[.int .i64 x.1,.int .i64 x.2]) (fun _=>rfl)
  (VS w W0.heap.size q L S Q cQ s lv 189) (fun _ _ h=>h.n) (fun _ _ _ h hb=>h.below hsz Ba hSw (fun _=>Tp) hb)
  (fun _ x=>x.1<x.2/\x.2<=s.I.length) (fun C x=>kA s x.1 x.2 C) C Z
  (fun l V' W h1 h2 h3 h4=>by rw[HZ.out];exact CV q L S Q cQ s lv _ _ qm (kA s) 189 (.inl rfl) Ey.out _ l V' (fun C A h=>(h1 C A h).v) h2 h3 C W h4)
  (fun x=>{ tmps:=#[.pointer (some ⟨S,0,none⟩),.pointer (some ⟨w.heap.size,0,none⟩),.int .i64 x.1,.int .i64 x.2,.pointer (some ⟨S,0,none⟩),.func (.func 199) #[] #[.pointer (some ⟨w.heap.size+1,0,none⟩),.pointer (some ⟨w.heap.size+1+1,0,none⟩)],.int .i64 x.1,.int .i64 x.2,undef,undef,undef,undef,undef,undef,undef,undef,undef,undef,undef,undef,undef,undef],defers:=[] })
  FX ?assign ?body ?done
 case assign =>
  intro l x W K hK;gi_wp2;exact hK
 case body =>
  rintro l C1 ⟨a,b⟩ A hV ⟨hab,YG⟩;dsimp only at hab YG ⊢;have HV:=hid hV;have b0:=hV.b0;have Ns:=hid (fun B (hf:Fr [] A B)=>x_ q C1 L S Q cQ s lv a B (HV.out.v.u.fr hf af) (HV.out.v.s.fr hf af af) (by omega));have Nt:=hid (fun B (hf:Fr [] A B)=>Ch q C1 L S Q cQ s lv b B (HV.out.v.u.fr hf af) (HV.out.v.s.fr hf af af) YG);have Nu:=hid (fun B (hf:Fr [] A B)=>GJ q C1 L S Q cQ s lv a b 3 B (HV.out.v.u.fr hf af) (HV.out.v.s.fr hf af af) hab YG);have HE:=hid (show kA s a b C1=if ah s C1 a=3\/tE s C1 b=3 then iE s.I a 3 (b - a) C1 else C1 from rfl);generalize kA s a b C1=E at *;generalize ah s C1 a=y1 at *;generalize tE s C1 b=y2 at *;clear hV FX hW0 Ey HST;by_cases e1:y1=3
  ·have HE2:=hid (show E=iE s.I a 3 (b - a) C1 by rw[HE.out,ay (.inl e1)])
   subst e1;gi_wp2_with (refine⟨trivial,?_⟩;first | (gi_at_call 155;refine(CallsIn.inRound l (eX.2 (Ns.out _ (Fr.refl _ _)))).mono ?_;rintro e w' ⟨rfl,rfl⟩) | (gi_at_call 156;refine(CallsIn.inRound l (eX.2 (Nt.out _ (Fr.refl _ _)))).mono ?_;rintro e w' ⟨rfl,rfl⟩) | (gi_at_call 157;refine(CallsIn.inRound l (eX.2 (Nu.out _ (Fr.refl _ _)))).mono ?_;rintro e w' ⟨rfl,hu',hf'⟩;have AF:=hid hu';have f_:=hid hf';clear hu' hf') | skip);exact⟨VS.late (by omega) f_.out,HV.out.next Ba (by rw[HE2.out];exact AF.out) f_.out⟩
  ·have e1':(y1 == 3)=false:=by simp[e1]
   by_cases e2:y2=3
   ·have HE2:=hid (show E=iE s.I a 3 (b - a) C1 by rw[HE.out,ay (.inr e2)])
    subst e2;gi_wp2_with (refine⟨trivial,?_⟩;first | (gi_at_call 155;refine(CallsIn.inRound l (eX.2 (Ns.out _ (Fr.refl _ _)))).mono ?_;rintro e w' ⟨rfl,rfl⟩) | (gi_at_call 156;refine(CallsIn.inRound l (eX.2 (Nt.out _ (Fr.refl _ _)))).mono ?_;rintro e w' ⟨rfl,rfl⟩) | (gi_at_call 157;refine(CallsIn.inRound l (eX.2 (Nu.out _ (Fr.refl _ _)))).mono ?_;rintro e w' ⟨rfl,hu',hf'⟩;have AF:=hid hu';have f_:=hid hf';clear hu' hf') | skip);exact⟨VS.late (by omega) f_.out,HV.out.next Ba (by rw[HE2.out];exact AF.out) f_.out⟩
   ·have HE2:=hid (show E=C1 by rw[HE.out,au (by omega)])
    have e2':(y2 == 3)=false:=by simp[e2]
    gi_wp2_with (refine⟨trivial,?_⟩;first | (gi_at_call 155;refine(CallsIn.inRound l (eX.2 (Ns.out _ (Fr.refl _ _)))).mono ?_;rintro e w' ⟨rfl,rfl⟩) | (gi_at_call 156;refine(CallsIn.inRound l (eX.2 (Nt.out _ (Fr.refl _ _)))).mono ?_;rintro e w' ⟨rfl,rfl⟩) | (gi_at_call 157;refine(CallsIn.inRound l (eX.2 (Nu.out _ (Fr.refl _ _)))).mono ?_;rintro e w' ⟨rfl,hu',hf'⟩;have AF:=hid hu';have f_:=hid hf';clear hu' hf') | skip);exact⟨fun _ _ _=>rfl,by rw[HE2.out];exact HV.out⟩
 case done =>
  rintro D A hV hD hK;have HV:=hid hV;clear hV;gi_wp2;refine⟨by simp,.inl ⟨_,_,rfl,run_takeDeferred hK,?_⟩⟩;refine⟨_,results_none rfl _ _ _,rfl,?_,?_⟩
  ·exact((HV.out.below hsz Ba hSw (fun _=>Tp) (iP hD _)).v).u
  ·exact(HV.out.below hsz Ba hSw (fun _=>Tp) (iP hD _)).f
theorem RD (q:UH)(C L:List Int)(S Q cQ:Nat)(s:Sq)(lv:Int)(w:World)(hu:US w q C L)(hs:SS w q S Q cQ s lv)(h0:0<s.I.length)(hl:0<=lv)(ho:s.own=way lv) :
 Calls prog 78 #[.pointer (some ⟨S,0,none⟩)] w fun e w'=>e=.returned (.tuple #[])/\US w' q (scan s.I yN (kH s) C) L/\Fr [q.U] w w':=by
 have Ba:q.U<w.heap.size:=eS _ _ (hu.r _ (hs.lt 0 h0));have hSw:S<w.heap.size:=eS _ _ hs.c0;have Tp:Q<w.heap.size:=eS _ _ (hs.p 0 h0);have HU:=hid hu;have HS:=hid hs;have HST:=hid (fun w=>EM S 154 w);have Ey:=hid PB;have HO:=hid ho;obtain⟨Z,hZ⟩:∃Z,Z=scan s.I yN (kH s) C:=⟨_,rfl⟩;rw[<-hZ];have HZ:=hid hZ;clear hu hs hZ ho;refine(eX (n:=3)).1 ?_;refine callsIn_of_wp_marks func78 rfl trivial ?_ rfl;simp only[ntmps78,dD,bO,List.length_nil,Nat.reduceAdd,Nat.reduceSub,cY,cZ,dF,dw,bU,b8];gi_wp2_with (refine⟨trivial,?_⟩;gi_at_call 153;refine(eX.2 (HST.out _)).mono ?_;rintro e w' ⟨rfl,rfl⟩);obtain⟨W0,hW0⟩:∃W0,((w.alloc (.cells #[.pointer (some ⟨S,0,none⟩)] 140)).alloc (.cells #[.pointer (some ⟨S,0,none⟩)] 140)).alloc (.cells #[.func (.func 154) #[] #[]] 238)=W0:=⟨_,rfl⟩;have hsz:W0.heap.size=w.heap.size+3:=by rw[<-hW0];simp
 have FX:VS w W0.heap.size q L S Q cQ s lv 154 C W0:=by
  have hf:Fr [] w W0:=by rw[<-hW0];exact(((Fr.refl [] w).alloc _).alloc _).alloc _
  refine⟨⟨HU.out.fr hf af,HS.out.fr hf af af,?_,?_⟩,?_,⟨hf.os,hf.tape,hf.output,hf.size,fun k hk _=>hf.block k hk af⟩,ak _⟩
  ·rw[<-hW0,fJ (hn:=by simp),eZ (hn:=by simp)];rfl
  ·rw[<-hW0,eZ (hn:=by simp)];rfl
  ·rw[<-hW0,fJ (hn:=by simp;omega),fJ (hn:=by simp),eZ (hn:=by simp)];rfl
 rw[hW0];refine vT rfl (by omega) (gf:=199) (lb:=#[.pointer (some ⟨w.heap.size+1,0,none⟩),.pointer (some ⟨w.heap.size+1+1,0,none⟩)]) rfl trivial (enters_of func199 (by kernel_rfl) rfl)
  (encs:=fun x:Nat × Nat=>#[.int .i64 x.1,.int .i64 x.2]) (fun _=>rfl)
  (VS w W0.heap.size q L S Q cQ s lv 154) (fun _ _ h=>h.n) (fun _ _ _ h hb=>h.below hsz Ba hSw (fun _=>Tp) hb)
  (fun _ x=>x.1<x.2/\x.2<=s.I.length) (fun C x=>kH s x.1 x.2 C) C Z
  (fun l V' W h1 h2 h3 h4=>by rw[HZ.out];exact CV q L S Q cQ s lv _ _ yN (kH s) 154 (.inr rfl) Ey.out _ l V' (fun C A h=>(h1 C A h).v) h2 h3 C W h4)
  (fun x=>{ tmps:=#[.pointer (some ⟨S,0,none⟩),.pointer (some ⟨w.heap.size,0,none⟩),.int .i64 x.1,.int .i64 x.2,undef,.pointer (some ⟨S,0,none⟩),.func (.func 199) #[] #[.pointer (some ⟨w.heap.size+1,0,none⟩),.pointer (some ⟨w.heap.size+1+1,0,none⟩)],.int .i64 x.1,.int .i64 x.2,undef,undef,undef,undef,undef,undef,undef,undef,undef,undef,undef,undef,undef,undef,undef,undef,undef],defers:=[] })
  FX ?assign ?body ?done
 case assign =>
  intro l x W K hK;gi_wp2;exact hK
 case body =>
  rintro l C1 ⟨a,b⟩ A hV ⟨hab,YG⟩;dsimp only at hab YG ⊢;have HV:=hid hV;have b0:=hV.b0;have Ns:=hid (fun B (hf:Fr [] A B)=>x_ q C1 L S Q cQ s lv a B (HV.out.v.u.fr hf af) (HV.out.v.s.fr hf af af) (by omega));have Nt:=hid (fun B (hf:Fr [] A B)=>Ch q C1 L S Q cQ s lv b B (HV.out.v.u.fr hf af) (HV.out.v.s.fr hf af af) YG);have Nu:=hid (fun v B (hf:Fr [] A B)=>GJ q C1 L S Q cQ s lv a b v B (HV.out.v.u.fr hf af) (HV.out.v.s.fr hf af af) hab YG);have RE:=hid (fun B (hf:Fr [] A B)=>Ci q S Q cQ s lv B (HV.out.v.s.fr hf af af) hl);have HE:=hid (show kH s a b C1=iE s.I a (if side (ah s C1 a)=side (tE s C1 b)then side (ah s C1 a)else way lv) (b - a) C1 by rw[kH,HO.out]);have uj:=hid (xZ (ah s C1 a));have HS2:=hid (xZ (tE s C1 b));generalize kH s a b C1=E at *;generalize ah s C1 a=y1 at *;generalize tE s C1 b=y2 at *;generalize side y1=z1 at *;generalize side y2=z2 at *;generalize way lv=z3 at *;clear hV FX hW0 Ey HST;by_cases e1:z1=z2
  ·have HE2:=hid (show E=iE s.I a z1 (b - a) C1 by rw[HE.out,ay e1])
   subst e1;gi_wp2_with (refine⟨trivial,?_⟩;first | (gi_at_call 155;refine(CallsIn.inRound l (eX.2 (Ns.out _ (Fr.refl _ _)))).mono ?_;rintro e w' ⟨rfl,rfl⟩) | (gi_at_call 156;refine(CallsIn.inRound l (eX.2 (Nt.out _ (Fr.refl _ _)))).mono ?_;rintro e w' ⟨rfl,rfl⟩) | (gi_at_call 149;refine(CallsIn.inRound l (eX.2 (uj.out _))).mono ?_;clear uj;rintro e w' ⟨rfl,rfl⟩) | (gi_at_call 149;refine(CallsIn.inRound l (eX.2 (HS2.out _))).mono ?_;clear HS2;rintro e w' ⟨rfl,rfl⟩) | (gi_at_call 157;refine(CallsIn.inRound l (eX.2 (Nu.out _ _ (Fr.refl _ _)))).mono ?_;rintro e w' ⟨rfl,hu',hf'⟩;have AF:=hid hu';have f_:=hid hf';clear hu' hf'));exact⟨VS.late (by omega) f_.out,HV.out.next Ba (by rw[HE2.out];exact AF.out) f_.out⟩
  ·have HE2:=hid (show E=iE s.I a z3 (b - a) C1 by rw[HE.out,au e1])
   have e1':(z1 == z2)=false:=by simp[e1]
   gi_wp2_with (refine⟨trivial,?_⟩;first | (gi_at_call 155;refine(CallsIn.inRound l (eX.2 (Ns.out _ (Fr.refl _ _)))).mono ?_;rintro e w' ⟨rfl,rfl⟩) | (gi_at_call 156;refine(CallsIn.inRound l (eX.2 (Nt.out _ (Fr.refl _ _)))).mono ?_;rintro e w' ⟨rfl,rfl⟩) | (gi_at_call 149;refine(CallsIn.inRound l (eX.2 (uj.out _))).mono ?_;clear uj;rintro e w' ⟨rfl,rfl⟩) | (gi_at_call 149;refine(CallsIn.inRound l (eX.2 (HS2.out _))).mono ?_;clear HS2;rintro e w' ⟨rfl,rfl⟩) | (gi_at_call 150;refine(CallsIn.inRound l (eX.2 (RE.out _ (Fr.refl _ _)))).mono ?_;rintro e w' ⟨rfl,mm,rfl⟩) | (gi_at_call 157;refine(CallsIn.inRound l (eX.2 (Nu.out _ _ ((Fr.refl [] _).drewN _)))).mono ?_;rintro e w' ⟨rfl,hu',hf'⟩;have AF:=hid hu';have f_:=hid hf'.CW;clear hu' hf'));exact⟨VS.late (by omega) f_.out,HV.out.next Ba (by rw[HE2.out];exact AF.out) f_.out⟩
 case done =>
  rintro D A hV hD hK;have HV:=hid hV;clear hV;gi_wp2;refine⟨by simp,.inl ⟨_,_,rfl,run_takeDeferred hK,?_⟩⟩;refine⟨_,results_none rfl _ _ _,rfl,?_,?_⟩
  ·exact((HV.out.below hsz Ba hSw (fun _=>Tp) (iP hD _)).v).u
  ·exact(HV.out.below hsz Ba hSw (fun _=>Tp) (iP hD _)).f
attribute [local go_sem] Oper.semAt_some
theorem Fr.behind {T T':List Nat}{w w1 w2:World}(h:Fr T w w1)(k:Fr T' w1 w2)(hT:∀b∈T',w.heap.size<=b):Fr T w w2 :=
 ⟨k.os.trans h.os,k.tape.trans h.tape,k.output.trans h.output,a_ h.size k.size,fun b hb hs=>(k.block b (bQ hb h.size) (fun hm=>by have:=hT b hm;omega)).trans (h.block b hb hs)⟩
structure VB (q:UH)(C L:List Int)(S Q cQ:Nat)(s:Sq)(lv:Int)(bx i:Nat)(W:World):Prop where
 u:US W q C L
 s:SS W q S Q cQ s lv
 b:W.cell? ⟨bx,0,none⟩=some (.slice (some ⟨Q,0,none⟩) i cQ)
theorem JS {s:Sq}{C:List Int}{k:Nat}(h:side (cl s.I C k)=-1):iH s C (k+1)=iH s C k:=by
 rw[iH,au (by omega)]
theorem JT {s:Sq}{C:List Int}{k:Nat}(h:side (cl s.I C k)≠-1):iH s C (k+1)=side (cl s.I C k):=by
 have:=sA (cl s.I C k);rw[iH,ay (by omega)]
theorem Ve (q:UH)(C L:List Int)(S Q cQ:Nat)(s:Sq)(lv:Int)(bx i:Nat)(hi:i<=s.I.length)(n l:Nat)(V':Nat->World->Prop)(Vc:World->Prop)(WZ:∀j A,V' j A->VB q C L S Q cQ s lv bx i A)(_:∀C A B,V' C A->Fr [] A B->V' C B)
 (hY:∀j (x:Nat) A,V' j A->(j=x+1/\x<i)->YieldAt Fence.wide (n - 1) prog l #[.int .i64 x,.pointer (some ⟨q.U,fX s.I x * 4,none⟩)] A fun e B=>(e=.returned (.bool true)/\V' x B)\/(e=.returned (.bool false)/\Vc B)) (W:World) (h0:V' i W) :
 CallsIn Fence.wide n prog 219 (#[.func (.yield l) #[] #[]]++#[.pointer (some ⟨bx,0,none⟩)]) W fun e B=>(∃v,e=.returned v)/\(V' 0 B\/Vc B):=by
 have b:=(WZ _ _ h0).b;have sm:=(WZ _ _ h0).s.sm;have Iy:=hid WZ;have HY:=hid hY;have H0:=hid h0;have hib:i<=1000000:=by omega
 clear WZ hY h0;refine callsIn_of_wp func219 rfl trivial ?_ rfl;simp only[ntmps219,dD,bO,List.length_nil,Nat.reduceAdd,Nat.reduceSub,cY,cZ,dF,dw,bU,b8];have hw0:IntKind.i64.wrap ((i:Int) - 1)=(i:Int) - 1:=by rw[eT];omega
 gi_wp2;clear b hw0;gi_loopw [3] (fun a wr=>∃(j:Nat),a=.int .i64 ((j:Int) - 1)/\j<=i/\Hid (V' j wr)) (fun a _=>(intOf a+1).toNat)
 case atStart=>exact⟨i,rfl,ak _,H0⟩
 case round =>
  obtain⟨j,rfl,hj,HV⟩:=hrel
  rcases aS j with hj0 | hj0
  ·subst hj0
   gi_wp2;go_end0;exact⟨⟨_,rfl⟩,.inl HV.out⟩
  ·obtain⟨x,rfl⟩:∃x,j=x+1:=⟨j - 1,by omega⟩
   have hx:((x+1:Nat):Int) - 1=(x:Int):=by omega
   rw[hx];have b:=(Iy.out _ _ HV.out).b;have p:=(Iy.out _ _ HV.out).s.p x (by omega);have hxi:(x:Int)<(i:Int):=by omega
   have hx0:(0:Int)<=(x:Int):=by omega
   have hw0:IntKind.i64.wrap ((x:Int) - 1)=(x:Int) - 1:=by rw[eT];omega
   obtain⟨fn,tmps,assign,body,WC,hR⟩:=HY.out (x+1) x wr HV.out ⟨rfl,by omega⟩;generalize fX s.I x=y at *;clear Iy HY hx;gi_wp2;refine⟨fun hd=>absurd hd (by decide),hR.mono ?_⟩;rintro e W3 (⟨rfl,RB⟩ | ⟨rfl,hx3⟩)
   ·have YF:=hid RB
    clear RB;gi_wp2;go_roundw
    case rel=>exact⟨x,by simp,by omega,YF⟩
    case measure=>simp[intOf]
   ·have oD:=hid hx3
    clear hx3;gi_wp2;refine eU (results_none rfl _ _ _) rfl ?_;exact⟨⟨_,rfl⟩,.inr oD.out⟩
theorem Nv (Q i c:Nat)(w:World):Calls prog 198 #[.slice (some ⟨Q,0,none⟩) i c] w fun e w' =>
 e=.returned (.func (.func 219) #[] #[.pointer (some ⟨w.heap.size,0,none⟩)])/\w'=w.alloc (.cells #[.slice (some ⟨Q,0,none⟩) i c] 221):=by
 go_enter func198,ntmps198;go_wp2;go_ret;exact⟨by simp,rfl⟩
structure VA (w:World)(n:Nat)(q:UH)(C L:List Int)(S Q cQ:Nat)(s:Sq)(lv:Int)(i j:Nat)(A:World):Prop where
 v:VB q C L S Q cQ s lv (w.heap.size+1) i A
 r:A.cell? ⟨w.heap.size,0,none⟩=some (.int .i64 0)
 rf:A.frozen? ⟨w.heap.size,0,none⟩=false
 f:Fr [] w A
 n:n<=A.heap.size
 e:iH s C i=iH s C j
theorem VA.below {w:World}{n:Nat}{q:UH}{C L:List Int}{S Q cQ:Nat}{s:Sq}{lv:Int}{i j:Nat}{A B:World}(h:VA w n q C L S Q cQ s lv i j A)(hn:n=w.heap.size+2)(hU:q.U<w.heap.size)(hS:S<w.heap.size)(hQ:0<s.I.length->Q<w.heap.size)(hb:Below n A B):VA w n q C L S Q cQ s lv i j B:=by
 have hf:=nk hb;have z:∀ {k},k<w.heap.size->k ∉ (List.range A.heap.size).filter (fun k=>decide (n<=k)):=fun hk=>lE (by omega)
 refine⟨⟨h.v.u.fr hf (z hU),⟨hf.cell h.v.s.c0 (z hS),hf.cell h.v.s.c1 (z hS),hf.cell h.v.s.c2 (z hS),hf.cell h.v.s.c3 (z hS),fun k hk=>hf.cell (h.v.s.p k hk) (z (hQ (by omega))),h.v.s.lt,h.v.s.ne,h.v.s.sm,h.v.s.cp⟩,hf.cell h.v.b (lE (by omega))⟩,hf.cell h.r (lE (by omega)),hf.j8 h.r (lE (by omega)) h.rf,?_,by have:=h.n;have:=hb.size;omega,h.e⟩;exact⟨hb.os.trans h.f.os,hb.tape.trans h.f.tape,hb.output.trans h.f.output,a_ h.f.size hb.size,fun k hk hm=>(hb.block k (by omega)).trans (h.f.block k hk hm)⟩
theorem qX {w A B:World}{n:Nat}(h:Fr [] w A)(hb:Below n A B)(hn:w.heap.size<=n):Fr [] w B :=
 ⟨hb.os.trans h.os,hb.tape.trans h.tape,hb.output.trans h.output,a_ h.size hb.size,fun k hk hm=>(hb.block k (by omega)).trans (h.block k hk hm)⟩
theorem Vf (q:UH)(C L:List Int)(S Q cQ:Nat)(s:Sq)(lv:Int)(i:Nat)(w:World)(hu:US w q C L)(hs:SS w q S Q cQ s lv)(hi:i<s.I.length)(hb:s.iq=0\/s.iq=1) :
 Calls prog 152 #[.pointer (some ⟨S,0,none⟩),.int .i64 i] w fun e w'=>e=.returned (.int .i64 (iH s C i))/\Fr [] w w':=by
 have Ba:q.U<w.heap.size:=eS _ _ (hu.r _ (hs.lt 0 (by omega)));have hSw:S<w.heap.size:=eS _ _ hs.c0;have Tp:Q<w.heap.size:=eS _ _ (hs.p 0 (by omega));have HU:=hid hu;have HS:=hid hs;have c0:=hs.c0;have cp:=hs.cp;have sm:=hs.sm;have HST:=hid (fun w=>Nv Q i cQ w);have HB:=hid (show iH s C 0=s.iq by rw[iH];rcases hb with e | e <;> rw[e] <;> rfl);obtain⟨Z,hZ⟩:∃Z,Z=iH s C i:=⟨_,rfl⟩;rw[<-hZ];have HZ:=hid hZ;obtain⟨m,hm⟩:∃m,m=s.I.length:=⟨_,rfl⟩;have HM:=hid hm;rw[<-hm]at c0 sm hi cp;have hi1:(i:Int)<=(cQ:Int):=by omega
 have hi2:(0:Int)<=(i:Int):=by omega
 clear hu hs hZ hb hm;refine(eX (n:=3)).1 ?_;refine callsIn_of_wp_marks func152 rfl trivial ?_ rfl;simp only[ntmps152,dD,bO,List.length_nil,Nat.reduceAdd,Nat.reduceSub,cY,cZ,dF,dw,bU,b8];gi_wp2_with (refine⟨trivial,?_⟩;gi_at_call 198;refine(eX.2 (HST.out _)).mono ?_;rintro e w' ⟨rfl,rfl⟩);obtain⟨W0,hW0⟩:∃W0,(w.alloc (.cells #[.int .i64 0] 199)).alloc (.cells #[.slice (some ⟨Q,0,none⟩) i cQ] 221)=W0:=⟨_,rfl⟩;have hsz:W0.heap.size=w.heap.size+2:=by rw[<-hW0];simp
 have FX:VA w W0.heap.size q C L S Q cQ s lv i i W0:=by
  have hf:Fr [] w W0:=by rw[<-hW0];exact((Fr.refl [] w).alloc _).alloc _
  have k1:(w.alloc (.cells #[.int .i64 0] 199)).cell? ⟨w.heap.size,0,none⟩=some (.int .i64 0):=by rw[eZ (hn:=rfl)];rfl
  refine⟨⟨HU.out.fr hf af,HS.out.fr hf af af,?_⟩,?_,?_,hf,ak _,rfl⟩
  ·rw[<-hW0,eZ (hn:=by simp)];rfl
  ·rw[<-hW0,fJ (hn:=by simp)];exact k1
  ·rw[<-hW0];exact((Fr.refl [] (w.alloc (.cells #[.int .i64 0] 199))).alloc _).j8 k1 af (by simp)
 rw[hW0];refine DW rfl (by omega) (gf:=219) (lb:=#[.pointer (some ⟨w.heap.size+1,0,none⟩)]) rfl trivial (enters_of func219 (by kernel_rfl) rfl)
  (encs:=fun x:Nat=>#[.int .i64 x,.pointer (some ⟨q.U,fX s.I x * 4,none⟩)]) (fun _=>rfl)
  (VA w W0.heap.size q C L S Q cQ s lv i) (fun A=>A.cell? ⟨w.heap.size,0,none⟩=some (.int .i64 Z)/\Fr [] w A) (fun _ _ h=>h.n) (fun _ _ _ h hb=>h.below hsz Ba hSw (fun _=>Tp) hb)
  (fun A B h hb=>⟨(nk hb).cell h.1 (lE (by omega)),qX h.2 hb (by omega)⟩)
  (fun j x=>j=x+1/\x<i) (fun _ x=>x) i 0
  (fun l V' Vc W h1 h2 h3 h4=>Ve q C L S Q cQ s lv _ i (by rw[<-HM.out];omega) _ l V' Vc (fun C A h=>(h1 C A h).v) h2 h3 W h4)
  (fun x=>{ tmps:=#[.pointer (some ⟨S,0,none⟩),.int .i64 i,undef,undef,.pointer (some ⟨w.heap.size,0,none⟩),undef,.pointer (some ⟨q.U,fX s.I x * 4,none⟩),undef,.pointer (some ⟨S,0,none⟩),.pointer (some ⟨S,0,none⟩),.pointer (some ⟨S,0,none⟩),.slice (some ⟨Q,0,none⟩) m cQ,.int .i64 i,.slice (some ⟨Q,0,none⟩) i cQ,.func (.func 219) #[] #[.pointer (some ⟨w.heap.size+1,0,none⟩)],.int .i64 x,.pointer (some ⟨q.U,fX s.I x * 4,none⟩),undef,undef,undef,undef,undef,undef,undef,undef,undef,undef,undef,undef],defers:=[] })
  FX ?assign ?body ?done ?stop
 case assign =>
  intro l x W K hK;gi_wp2;exact hK
 case body =>
  rintro l j x A hV ⟨rfl,hx⟩;have HV:=hid hV;have p2:=hV.v.u.c _ (hV.v.s.lt x (by rw[<-HM.out];omega));have r0:=hV.r;have rf:=hV.rf;have uj:=hid (xZ (cl s.I C x));have PV:=hid (fun h=>JS (s:=s) (C:=C) (k:=x) h);have jK:=hid (fun h=>JT (s:=s) (C:=C) (k:=x) h);have Tq:=hid (HZ.out.trans hV.e);dsimp only[cl]at *;generalize fX s.I x=y at *;generalize nth C y=c at *;generalize hz:side c=z at *;clear hz hV FX hW0 HST c0;by_cases e1:z=-1
  ·have HE2:=hid (PV.out e1)
   subst e1;gi_wp2_with (refine⟨trivial,?_⟩;gi_at_call 149;refine(CallsIn.inRound l (eX.2 (uj.out _))).mono ?_;rintro e w' ⟨rfl,rfl⟩);exact⟨fun _ _ _=>rfl,⟨HV.out.v,HV.out.r,HV.out.rf,HV.out.f,HV.out.n,HV.out.e.trans HE2.out⟩⟩
  ·have HE2:=hid (Tq.out.trans (jK.out e1))
   have e1':(z == -1)=false:=by simp[e1]
   gi_wp2_with (refine⟨trivial,?_⟩;gi_at_call 149;refine(CallsIn.inRound l (eX.2 (uj.out _))).mono ?_;rintro e w' ⟨rfl,rfl⟩);refine⟨fun k hk hk2=>Below.heap_setCell _ _ _ _ (by dsimp only;omega),?_,?_⟩
   ·rw[HE2.out];exact World.cell?_setCell_same' _ _ _ (by rw[r0];rfl)
   ·exact HV.out.f.behind (gH _ _ _ _) (fun b hb=>by rw[aj.1 hb];exact ak _)
 case done =>
  rintro D A hV hD hK;have HV:=hid hV;have c2:=hV.v.s.c2;have r0:=hV.r;have rf:=hV.rf;have hZb:s.iq=Z:=by rw[HZ.out,hV.e,HB.out]
  rw[hZb]at c2;clear hV FX hW0 hZb;gi_wp2;have hK':(A.setCell ⟨w.heap.size,0,none⟩ (.int .i64 Z)).heap[D]?=some (.deferred (some [])):=(Below.heap_setCell _ _ _ _ (by dsimp only;omega)).trans hK;refine⟨by simp,.inl ⟨_,_,rfl,run_takeDeferred hK',?_⟩⟩;have hc5:((A.setCell ⟨w.heap.size,0,none⟩ (.int .i64 Z)).putObj D (.deferred none)).cell? ⟨w.heap.size,0,none⟩=some (.int .i64 Z):=(nk (iP (B:=W0.heap.size) hD (.deferred none))).cell (World.cell?_setCell_same' _ _ _ (by rw[r0];rfl)) (lE (by omega));refine⟨.int .i64 Z,?_,rfl,qX (HV.out.f.behind (gH _ _ _ _) (fun b hb=>by rw[aj.1 hb];exact ak _)) (iP (B:=W0.heap.size) hD (.deferred none)) (by omega)⟩;simp[results,Tryz.f152,go_sem,hc5]
 case stop =>
  rintro D A ⟨hc,hf⟩ hD hK;clear FX hW0;gi_wp2;refine⟨by simp,.inl ⟨_,_,rfl,run_takeDeferred hK,?_⟩⟩;have hc5:(A.putObj D (.deferred none)).cell? ⟨w.heap.size,0,none⟩=some (.int .i64 Z):=(nk (iP (B:=W0.heap.size) hD (.deferred none))).cell hc (lE (by omega));refine⟨.int .i64 Z,?_,rfl,qX hf (iP (B:=W0.heap.size) hD (.deferred none)) (by omega)⟩;simp[results,Tryz.f152,go_sem,hc5]
end Go.Proofs.YtnakejhohdbfdaaGreatDoor
namespace Go.Proofs
open Go.Shelf Go.Proofs.Tryz
def Tryz.EN:Go.Shelf.Ren:=⟨fun | 7=>148 | 10=>196 | n=>n,fun | 23=>135 | 26=>3 | 3=>3 | 28=>229 | 0=>0 | 27=>228 | 33=>95 | 4=>4 | n=>n,fun | n=>n⟩
theorem Tryz.W4:Go.Proofs.SlLaysZI.n7 prog Tryz.EN:={
 mixed:=by kernel_rfl
 f7:=⟨Tryz.f148.name,by decide,Tryz.func148.trans (congrArg some (by kernel_rfl))⟩
 f10:=⟨Tryz.f196.name,by decide,Tryz.func196.trans (congrArg some (by kernel_rfl))⟩
 t0:=underlying0
 a0:=isAgg0
 z0:=sizeOf0
 v0:=zeroValue0
 t4:=underlying4
 a4:=isAgg4
 z4:=sizeOf4
 v4:=zeroValue4
 t23:=underlying135
 a23:=isAgg135
 z23:=sizeOf135
 v23:=zeroValue135
 t26:=underlying3
 a26:=isAgg3
 z26:=sizeOf3
 v26:=zeroValue3
 t27:=underlying228
 a27:=isAgg228
 z27:=sizeOf228
 v27:=zeroValue228
 t28:=underlying229
 a28:=isAgg229
 z28:=sizeOf229
 v28:=zeroValue229
 t33:=underlying95
 a33:=isAgg95
 z33:=sizeOf95
 v33:=zeroValue95 }
def Tryz.Ar:Go.Shelf.Ren:=⟨fun | 6=>147 | 8=>194 | 9=>195 | 11=>216 | 13=>218 | 12=>217 | 23=>240 | 24=>241 | 14=>232 | 15=>233 | 16=>234 | 17=>235 | 18=>236 | 19=>237 | 20=>209 | 21=>238 | 22=>239 | 25=>250 | 26=>251 | 27=>252 | 28=>253 | 29=>254 | 30=>231 | 31=>257 | n=>n,fun | 26=>3 | 28=>229 | 24=>22 | 0=>0 | 3=>3 | 37=>283 | 48=>324 | 50=>114 | 4=>4 | 40=>319 | 39=>318 | 45=>218 | 5=>5 | 9=>9 | 51=>335 | 55=>339 | 57=>341 | 58=>342 | 33=>95 | n=>n,fun | n=>n⟩
theorem Tryz.Vg:Go.Proofs.SlLaysZI.n6 prog Tryz.Ar:={
 mixed:=by kernel_rfl
 f6:=⟨Tryz.f147.name,by decide,Tryz.func147.trans (congrArg some (by kernel_rfl))⟩
 f8:=⟨Tryz.f194.name,by decide,Tryz.func194.trans (congrArg some (by kernel_rfl))⟩
 f11:=⟨Tryz.f216.name,by decide,Tryz.func216.trans (congrArg some (by kernel_rfl))⟩
 t0:=underlying0
 a0:=isAgg0
 z0:=sizeOf0
 v0:=zeroValue0
 t24:=underlying22
 a24:=isAgg22
 z24:=sizeOf22
 v24:=zeroValue22
 t26:=underlying3
 a26:=isAgg3
 z26:=sizeOf3
 v26:=zeroValue3
 t28:=underlying229
 a28:=isAgg229
 z28:=sizeOf229
 v28:=zeroValue229
 i26:=by kernel_rfl }
def Tryz.Nw:Go.Shelf.Ren:=⟨fun | 5=>195 | 8=>218 | 7=>217 | 19=>240 | 20=>241 | 10=>232 | 11=>233 | 12=>234 | 13=>235 | 14=>236 | 15=>237 | 16=>209 | 17=>238 | 18=>239 | 30=>250 | 31=>251 | 32=>252 | 33=>253 | 34=>254 | 35=>231 | 40=>257 | n=>n,fun | 23=>22 | 25=>3 | 3=>3 | 32=>283 | 22=>22 | 0=>0 | 44=>324 | 46=>114 | 4=>4 | 36=>319 | 35=>318 | 41=>218 | 5=>5 | 9=>9 | 53=>335 | 57=>339 | 63=>341 | 64=>342 | n=>n,fun | n=>n⟩
theorem Tryz.W5:Go.Proofs.SlLaysM.n5 prog Tryz.Nw:={
 mixed:=by kernel_rfl
 f5:=⟨Tryz.f195.name,by decide,Tryz.func195.trans (congrArg some (by kernel_rfl))⟩
 f7:=⟨Tryz.f217.name,by decide,Tryz.func217.trans (congrArg some (by kernel_rfl))⟩
 f8:=Tryz.func218.trans (congrArg some (by kernel_rfl))
 f10:=⟨Tryz.f232.name,by decide,Tryz.func232.trans (congrArg some (by kernel_rfl))⟩
 f11:=⟨Tryz.f233.name,by decide,Tryz.func233.trans (congrArg some (by kernel_rfl))⟩
 f12:=⟨Tryz.f234.name,by decide,Tryz.func234.trans (congrArg some (by kernel_rfl))⟩
 f13:=⟨Tryz.f235.name,by decide,Tryz.func235.trans (congrArg some (by kernel_rfl))⟩
 f14:=⟨Tryz.f236.name,by decide,Tryz.func236.trans (congrArg some (by kernel_rfl))⟩
 f15:=⟨Tryz.f237.name,by decide,Tryz.func237.trans (congrArg some (by kernel_rfl))⟩
 f16:=⟨Tryz.f209.name,by decide,Tryz.func209.trans (congrArg some (by kernel_rfl))⟩
 f17:=⟨Tryz.f238.name,by decide,Tryz.func238.trans (congrArg some (by kernel_rfl))⟩
 f18:=⟨Tryz.f239.name,by decide,Tryz.func239.trans (congrArg some (by kernel_rfl))⟩
 f19:=Tryz.func240.trans (congrArg some (by kernel_rfl))
 f20:=Tryz.func241.trans (congrArg some (by kernel_rfl))
 f30:=⟨Tryz.f250.name,by decide,Tryz.func250.trans (congrArg some (by kernel_rfl))⟩
 f31:=Tryz.func251.trans (congrArg some (by kernel_rfl))
 f32:=Tryz.func252.trans (congrArg some (by kernel_rfl))
 f33:=⟨Tryz.f253.name,by decide,Tryz.func253.trans (congrArg some (by kernel_rfl))⟩
 f34:=⟨Tryz.f254.name,by decide,Tryz.func254.trans (congrArg some (by kernel_rfl))⟩
 f35:=⟨Tryz.f231.name,by decide,Tryz.func231.trans (congrArg some (by kernel_rfl))⟩
 f40:=⟨Tryz.f257.name,by decide,Tryz.func257.trans (congrArg some (by kernel_rfl))⟩
 t0:=underlying0
 a0:=isAgg0
 z0:=sizeOf0
 v0:=zeroValue0
 t3:=underlying3
 a3:=isAgg3
 z3:=sizeOf3
 v3:=zeroValue3
 t4:=underlying4
 a4:=isAgg4
 z4:=sizeOf4
 v4:=zeroValue4
 t5:=underlying5
 a5:=isAgg5
 z5:=sizeOf5
 v5:=zeroValue5
 t9:=underlying9
 a9:=isAgg9
 z9:=sizeOf9
 v9:=zeroValue9
 t22:=underlying22
 a22:=isAgg22
 z22:=sizeOf22
 v22:=zeroValue22
 t23:=underlying22
 a23:=isAgg22
 z23:=sizeOf22
 v23:=zeroValue22
 t25:=underlying3
 a25:=isAgg3
 z25:=sizeOf3
 v25:=zeroValue3
 t32:=underlying283
 a32:=isAgg283
 z32:=sizeOf283
 v32:=zeroValue283
 t35:=underlying318
 a35:=isAgg318
 z35:=sizeOf318
 v35:=zeroValue318
 t36:=underlying319
 a36:=isAgg319
 z36:=sizeOf319
 v36:=zeroValue319
 t41:=underlying218
 a41:=isAgg218
 z41:=sizeOf218
 v41:=zeroValue218
 t44:=underlying324
 a44:=isAgg324
 z44:=sizeOf324
 v44:=zeroValue324
 t46:=underlying114
 a46:=isAgg114
 z46:=sizeOf114
 v46:=zeroValue114
 t53:=underlying335
 a53:=isAgg335
 z53:=sizeOf335
 v53:=zeroValue335
 t57:=underlying339
 a57:=isAgg339
 z57:=sizeOf339
 v57:=zeroValue339
 t63:=underlying341
 a63:=isAgg341
 z63:=sizeOf341
 v63:=zeroValue341
 t64:=underlying342
 a64:=isAgg342
 z64:=sizeOf342
 v64:=zeroValue342 }
end Go.Proofs
namespace Go.Proofs.YtnakejhohdbfdaaGreatDoor
open Go.RowKit jN Go.Maps Go.Sort Go.Proofs.Tryz
theorem YH (m:Nat):AnyZI.SortsIn prog Tryz.Ar Fence.wide m :=
 ⟨fun blk off cap ss W hH hblk hsz=>eX.2 (AnyM.slices_Sort_int Tryz.W5 blk off cap ss W hH hblk hsz),
  fun p cap W=>eX.2 (AnyM.slices_Sort_int_none Tryz.W5 p cap W)⟩
theorem RF (mb:Option Nat)(w:World):Calls prog 148 #[.map mb] w fun e w'=>e=.returned (.func (.func 196) #[] #[.pointer (some ⟨w.heap.size,0,none⟩)])/\w'=w.alloc (.cells #[.map mb] 135) :=
 eX.1 (AnyZI.keys_in Tryz.W4 Fence.wide 5 trivial rfl mb w)
theorem JU (b nn bm:Nat)(D:DataW Unit)(out:List (Nat × Nat))(w:World)(hown:w.ownsMap prog 3 (plainElem prog 3) b nn D)(hm:w.cell? ⟨bm,0,none⟩=some (.map (some b)))(ho:AQ D out)(hs:out.Pairwise (fun a b=>a.1<b.1))(hl:out.length<=1000000) :
 Calls prog 147 #[.func (.func 196) #[] #[.pointer (some ⟨bm,0,none⟩)]] w fun e w'=>∃v,e=.returned v/\w'.ownsRow w.heap.size 3 1 v out.length (gz (out.map (·.1)))/\Fr [] w w':=by
 have hsz:Maps.size D=out.length:=(ho.keys (hown.canon tB) hs (List.Perm.refl _)).2.2;have hseq:SeqGives Fence.wide 2 prog 196 #[.pointer (some ⟨bm,0,none⟩)] encZ (fun ss=>ss.Perm (intKeys D)) (Maps.size D) w :=
  AnyZI.keys_gives (ρ:=Tryz.EN) { Tryz.W4 with } Fence.wide _ trivial rfl (by omega) bm b nn D w (eS _ _ hm) hm hown
 have cS:=AnyZI.sorted_in Tryz.Vg Fence.wide 5 trivial trivial trivial trivial rfl (by omega) (YH _) (enters_of func195 (by kernel_rfl) rfl) 196 #[.pointer (some ⟨bm,0,none⟩)] trivial (enters_of func196 (by kernel_rfl) rfl) _ (Maps.size D) (by rw[hsz];unfold maxLen;omega) (by rw[hsz];omega) w hseq;refine(eX.1 cS).mono ?_;rintro e w' ⟨v,ss,rfl,hp,hrow,_,hb⟩;obtain⟨k1,k2,_⟩:=ho.keys (hown.canon tB) hs hp;refine⟨v,rfl,?_,Fr.of_below hb⟩;rw[k1,k2]at hrow;rw[show gz (out.map (·.1))=(out.map (fun p=>(p.1:Int))).map encZ by simp[gz,List.map_map,Function.comp_def]];exact hrow
theorem K6 {f:Nat->Bool}{a:Nat}:∀ {d j:Nat},j<d->f (a+j)=true->je f a d=true
 | 0,j,h,_=>by omega
 | d+1,j,h,hf=>by
   rw[je];by_cases e:j=d
   ·subst e;rw[hf];simp
   ·rw[K6 (d:=d) (j:=j) (by omega) hf];rfl
theorem K7 {s:Sq}{C:List Int}(hb:s.iq=0\/s.iq=1):∀i,iH s C i=0\/iH s C i=1
 | 0=>by rw[iH];rcases hb with e | e <;> rw[e] <;> decide
 | i+1=>by
   rw[iH];have:=sA (cl s.I C i);split
   ·omega
   ·exact K7 hb i
theorem Vh (q:UH)(C L:List Int)(S Q cQ:Nat)(s:Sq)(lv:Int)(w:World)(hu:US w q C L)(hs:SS w q S Q cQ s lv)(h0:0<s.I.length)(hl:0<=lv)(ho:s.own=way lv)(hb:s.iq=0\/s.iq=1) :
 Calls prog 77 #[.pointer (some ⟨S,0,none⟩)] w fun e w'=>e=.returned (.tuple #[])/\US w' q (brackets q.R q.K s C) L/\Fr [q.U] w w':=by
 have Ba:q.U<w.heap.size:=eS _ _ (hu.r _ (hs.lt 0 h0));have hSw:S<w.heap.size:=eS _ _ hs.c0;have Tp:Q<w.heap.size:=eS _ _ (hs.p 0 h0);have HU:=hid hu;have HS:=hid hs;have ab3:=hid (Nq q C L S Q cQ s lv w hu hs);have sm:=hs.sm;have cp:=hs.cp;have j9:=hid (Bq q.R s.I C);have HPV:=hid (uF q.R s.I C s.I.length);have YI:=hid (show brackets q.R q.K s C=jH q.K s (gF q.R s.I C s.I.length).out (gF q.R s.I C s.I.length).out.length C from rfl);generalize brackets q.R q.K s C=Z at *;generalize (gF q.R s.I C s.I.length)=pp at *;obtain⟨m,hm⟩:∃m,m=s.I.length:=⟨_,rfl⟩;have HM:=hid hm;rw[<-hm]at sm cp;have HO:=hid ho;have HB:=hid hb;obtain⟨n,hn⟩:∃n,n=pp.out.length:=⟨_,rfl⟩;have HN:=hid hn;have hnb:n<=1000000:=by have h5:=HPV.out.len;rw[<-hm]at h5;omega
 clear hu hs hm ho hb hn;go_enter func77,ntmps77;go_wp2;go_step3;go_wp2_with fail;refine ab3.out.mono ?_;rintro e w1 ⟨rfl,⟨D,hown,hmo⟩,hf1⟩;have iy:=hid hf1;have kT:=hid hown;have Jq:=hid hmo;have hsz1:=hf1.size;have hml:=hown.lt;clear hown hmo hf1 ab3;go_wp2_with fail;go_step3;go_wp2_with (first | (go_at_call 148;refine(RF _ _).mono ?_;rintro e w' ⟨rfl,rfl⟩));have hkc:(w1.alloc (.cells #[.map (some w.heap.size)] 135)).cell? ⟨w1.heap.size,0,none⟩=some (.map (some w.heap.size)):=by rw[eZ (hn:=rfl)];rfl
 refine(JU w.heap.size _ w1.heap.size D pp.out _ (kT.out.alloc _) hkc Jq.out HPV.out.so (by rw[<-HN.out];exact hnb)).mono ?_;rintro e w2 ⟨v,rfl,hrow,hf2⟩;obtain⟨a1,c1,hv1⟩:=gA hrow;rw[<-HN.out]at hv1 hrow;rw[fI]at hrow;subst hv1;have HR2:=hid hrow;have Vi:Fr [] w1 w2:=((Fr.refl [] w1).alloc _).trans hf2;have f_:=hid (iy.out.trans Vi);have iG:=hid (vg kT.out Vi af);have AF:=hid (HU.out.fr f_.out af);have HS2:=hid (HS.out.fr f_.out af af);have hsz2:=Vi.size;clear hkc hrow hf2 Vi;go_wp2;go_loopg [15] n (fun g a wr=>∃(k:Nat),a=.int .i64 k/\k<=n/\g=n - k/\Hid (US wr q (jH q.K s pp.out k C) L)/\Hid (Fr [q.U] w2 wr))
 case atStart=>exact⟨0,rfl,aH _,rfl,AF,hid (Fr.refl _ _)⟩
 case round =>
  obtain⟨k,rfl,hk,rfl,W6,HF⟩:=hrel;by_cases hlt:k<n
  ·have hkr:k<pp.out.length:=by rw[<-HN.out];exact hlt
   obtain⟨o,c,hoc⟩:∃o c,(pp.out[k]?).getD (0,0)=(o,c):=⟨_,_,rfl⟩;obtain⟨h1,h2⟩:=j9.out k hkr;rw[hoc]at h1 h2;dsimp only at h1 h2;rw[<-HM.out]at h2;have hmem:(o,c)∈pp.out:=by rw[<-hoc,az hkr];exact aT hkr
   obtain⟨gk,ck,hsh⟩:=fR (by omega) HR2.out;cases hsh;have hgk:=fZ HR2.out;have hgU:gk ∉ [q.U]:=by simp;omega
   have e1:wr.cell? ⟨gk,k,none⟩=some (.int .i64 (o:Nat)):=by
    refine HF.out.cell ?_ hgU;rw[jJ HR2.out (by rw[dm];exact HN.out.symm) k hlt]
    congr 3
    rw[fX,bV,az hkr];rw[az hkr]at hoc;simp at hoc;simp[hoc]
   have HOW:=hid (vg iG.out HF.out (by simp;omega));have HAT:=hid (Jq.out.h _ hmem).2;have W7:=hid (HS2.out.fr HF.out (fun hm=>HS.out.ne.1 (aj.1 hm)) (fun hm=>HS.out.ne.2 (aj.1 hm)));have c0:=W7.out.c0;rw[<-HM.out]at c0;have HST:=hid (show jH q.K s pp.out (k+1) C=nK q.K s (o,c) (jH q.K s pp.out k C) by rw[jH,hoc]);generalize jH q.K s pp.out k C=C1 at *;obtain⟨d,hd⟩:∃d,c - (o+1)=d:=⟨_,rfl⟩;have HD:=hid hd;have hdm:o+1+d=c:=by omega
   have sX:(k:Int)<(n:Int):=by omega
   have hI1:((o:Int)+1)<=(c:Int):=by omega
   have hI2:(c:Int)<=(cQ:Int):=by omega
   have hI3:(c:Int)<=(m:Int):=by omega
   have hca:¬cQ=o+1:=by omega
   have hwl:=HF.out.size;have ab4:=hid (fun v X (hf:Fr [] wr X)=>Qn q C1 L S Q cQ s lv o c v X (W6.out.fr hf af) (W7.out.fr hf af af) (by rw[<-HM.out];omega) (by rw[<-HM.out];omega));have RE:=hid (fun X (hf:Fr [] wr X)=>Ci q S Q cQ s lv X (W7.out.fr hf af af) hl);have agk:=hid (fun X (hf:Fr [] wr X)=>Vf q C1 L S Q cQ s lv o X (W6.out.fr hf af) (W7.out.fr hf af af) (by rw[<-HM.out];omega) HB.out);have ab5:=hid (K7 (s:=s) (C:=C1) HB.out o);have xF:=hid (show nK q.K s (o,c) C1=if je (fun k=>side (cl s.I C1 k) == way lv) (o+1) d then become q.K s.I c (way lv) (become q.K s.I o (way lv) C1)else if je (fun k=>decide (0<=side (cl s.I C1 k))) (o+1) d then become q.K s.I c (iH s C1 o) (become q.K s.I o (iH s C1 o) C1)else C1 by rw[nK,HO.out,HD.out]);generalize iH s C1 o=ya at *;clear hkr hoc hmem hgU hd;go_wp2_with (first | (at_lookup;refine wpList_lookup_own_int _ rfl _ _ 135 rfl 3 3 .i64 tB underlying135 underlying3 (CO _) w.heap.size _ D rfl HOW.out _ (kN o) rfl (keyOf_int_mk underlying3 (fB (by omega))) ?_;intro c2 hat hwc;obtain rfl:c2=(c:Int):=(by have h5:=hat.symm.trans (HAT.out _);simpa using h5);clear hat hwc));rw[HD.out];clear e1 c0 HOW HAT;go_loopg [31,6] d (fun g jj x wx=>∃(t:Nat) (xb:Int),jj=.int .i64 t/\t<=d/\g=d - t/\x=.int .i64 xb/\Hid (xb=if je (fun k=>decide (0<=side (cl s.I C1 k))) (o+1) t then ya else -1)/\Hid (je (fun k=>side (cl s.I C1 k) == way lv) (o+1) t=false)/\Hid (Fr [] wr wx))
   case atStart=>exact⟨0,-1,rfl,aH _,rfl,rfl,hid rfl,hid rfl,hid (Fr.refl _ _)⟩
   case round =>
    obtain⟨t,xb,rfl,htd,rfl,rfl,HXB,HAO,tG⟩:=hrel;by_cases htl:t<d
    ·have hts:o+1+t<s.I.length:=by rw[<-HM.out];omega
     obtain⟨i,hi⟩:∃i,i=fX s.I (o+1+t):=⟨_,rfl⟩;obtain⟨cc,hcc⟩:∃cc,cc=cl s.I C1 (o+1+t):=⟨_,rfl⟩;obtain⟨z,hz⟩:∃z,z=side cc:=⟨_,rfl⟩;have p1:wr.cell? ⟨Q,o+1+t,none⟩=some (.pointer (some ⟨q.U,i * 4,none⟩)):=by rw[hi];exact(W7.out.fr tG.out af af).p _ hts
     have p2:wr.cell? ⟨q.U,i * 4+2,none⟩=some (.int .i64 cc):=by rw[hi,hcc];exact(W6.out.fr tG.out af).c _ (W7.out.lt _ hts)
     have Vj:=hid (xZ cc);rw[<-hz]at Vj;have qp:=hid (sA cc);rw[<-hz]at qp;have HA1:=hid (show je (fun k=>side (cl s.I C1 k) == way lv) (o+1) (t+1)=(je (fun k=>side (cl s.I C1 k) == way lv) (o+1) t || (z == way lv)) by rw[je,hz,hcc]);have HA2:=hid (show je (fun k=>decide (0<=side (cl s.I C1 k))) (o+1) (t+1)=(je (fun k=>decide (0<=side (cl s.I C1 k))) (o+1) t || decide (0<=z)) by rw[je,hz,hcc]);have Nx:=hid (fun(h:z=way lv)=>K6 (f:=fun k=>side (cl s.I C1 k) == way lv) (a:=o+1) (d:=d) (j:=t) htl (by rw[<-hcc,<-hz];simp[h]));clear hi hcc hz;have T5:(t:Int)<(d:Int):=by omega
     have aly:=hid (wD lv);clear hts;by_cases ez:z=way lv
     ·have HZ2:=hid (show jH q.K s pp.out (k+1) C=become q.K s.I c (way lv) (become q.K s.I o (way lv) C1) by rw[HST.out,xF.out,ay (Nx.out ez)])
      generalize way lv=yo at *;subst ez;go_wp2_with (first | (go_at_call 149;refine(Vj.out _).mono ?_;rintro e w' ⟨rfl,rfl⟩) | (go_at_call 150;refine(RE.out _ ?_).mono ?_;(first | exact tG.out | exact tG.out.drewN _ | exact(tG.out.drewN _).drewN _);rintro e w' ⟨rfl,mm,rfl⟩) | (go_at_call 151;refine(ab4.out _ _ ?_).mono ?_;(first | exact tG.out | exact tG.out.drewN _ | exact(tG.out.drewN _).drewN _);rintro e w' ⟨rfl,hu',hf'⟩;have HU3:=hid hu';have iO:=hid hf';clear hu' hf'));go_roundg (n - (k+1))
      case measure=>omega
      case rel=>exact⟨k+1,by go_num,by omega,rfl,hid (by rw[HZ2.out];exact HU3.out),hid ((HF.out.trans (tG.out.mono (fun k hk=>absurd hk af))).trans iO.out.CW)⟩
     ·have ezb:(z == way lv)=false:=by simp[ez]
      have RG:=hid (show je (fun k=>side (cl s.I C1 k) == way lv) (o+1) (t+1)=false by rw[HA1.out,HAO.out,ezb];rfl);by_cases en:z=-1
      ·have qV:=hid (show xb=if je (fun k=>decide (0<=side (cl s.I C1 k))) (o+1) (t+1)then ya else -1 by rw[HA2.out,en];simp;exact HXB.out)
       generalize way lv=yo at *;subst en;clear Nx HA1 HA2;go_wp2_with (first | (go_at_call 149;refine(Vj.out _).mono ?_;rintro e w' ⟨rfl,rfl⟩) | (go_at_call 150;refine(RE.out _ ?_).mono ?_;(first | exact tG.out | exact tG.out.drewN _ | exact(tG.out.drewN _).drewN _);rintro e w' ⟨rfl,mm,rfl⟩));go_roundg (d - (t+1))
       case measure=>omega
       case rel=>exact⟨t+1,xb,by go_num,by omega,rfl,rfl,qV,RG,hid (tG.out.drewN _)⟩
      ·have hz0:0<=z:=by have:=qp.out;omega
       have enb:(z == -1)=false:=by simp[en]
       have qV:=hid (show ya=if je (fun k=>decide (0<=side (cl s.I C1 k))) (o+1) (t+1)then ya else -1 by rw[HA2.out,aZ hz0];simp);generalize way lv=yo at *;clear Nx HA1 HA2;go_wp2_with (first | (go_at_call 149;refine(Vj.out _).mono ?_;rintro e w' ⟨rfl,rfl⟩) | (go_at_call 150;refine(RE.out _ ?_).mono ?_;(first | exact tG.out | exact tG.out.drewN _ | exact(tG.out.drewN _).drewN _);rintro e w' ⟨rfl,mm,rfl⟩) | (go_at_call 152;refine(agk.out _ ?_).mono ?_;(first | exact tG.out | exact tG.out.drewN _ | exact(tG.out.drewN _).drewN _);rintro e w' ⟨rfl,hf'⟩;have iO:=hid hf';clear hf'));go_roundg (d - (t+1))
       case measure=>omega
       case rel=>exact⟨t+1,ya,by go_num,by omega,rfl,rfl,qV,RG,hid (tG.out.trans iO.out.CW)⟩
    ·have hte:t=d:=by omega
     have T5:¬(t:Int)<(d:Int):=by omega
     have RG:=hid (show je (fun k=>side (cl s.I C1 k) == way lv) (o+1) d=false by rw[<-hte];exact HAO.out);have Vk:=hid (show xb=if je (fun k=>decide (0<=side (cl s.I C1 k))) (o+1) d then ya else -1 by rw[<-hte];exact HXB.out);clear hte HAO HXB;cases hst:je (fun k=>decide (0<=side (cl s.I C1 k))) (o+1) d with
     | true =>
       have hxb:xb=ya:=by rw[Vk.out,hst];rfl
       have HZ2:=hid (show jH q.K s pp.out (k+1) C=become q.K s.I c ya (become q.K s.I o ya C1) by rw[HST.out,xF.out,au (by rw[RG.out];exact aE),ay hst]);subst hxb;have hyn:(xb == -1)=false:=by have:=ab5.out;simp;omega
       have alA:¬xb=-1:=by have:=ab5.out;omega
       clear hst Vk;go_wp2_with (first | (go_at_call 151;refine(ab4.out _ _ ?_).mono ?_;exact tG.out;rintro e w' ⟨rfl,hu',hf'⟩;have HU3:=hid hu';have iO:=hid hf';clear hu' hf'));go_roundg (n - (k+1))
       case measure=>omega
       case rel=>exact⟨k+1,by go_num,by omega,rfl,hid (by rw[HZ2.out];exact HU3.out),hid ((HF.out.trans (tG.out.mono (fun k hk=>absurd hk af))).trans iO.out)⟩
     | false =>
       have hxb:xb=-1:=by rw[Vk.out,hst];rfl
       have HZ2:=hid (show jH q.K s pp.out (k+1) C=C1 by rw[HST.out,xF.out,au (by rw[RG.out];exact aE),au (by rw[hst];exact aE)]);subst hxb;clear hst Vk;go_wp2;go_roundg (n - (k+1))
       case measure=>omega
       case rel=>exact⟨k+1,by go_num,by omega,rfl,hid (by rw[HZ2.out];exact W6.out.fr tG.out af),hid (HF.out.trans (tG.out.mono (fun k hk=>absurd hk af)))⟩
  ·have hke:k=n:=by omega
   have lQ:=hid (show US wr q Z L by rw[YI.out,<-HN.out,<-hke];exact W6.out);have sX:¬(k:Int)<(n:Int):=by omega
   clear hke;go_wp2;go_end0;exact⟨rfl,lQ.out,(f_.out.mono (fun k hk=>absurd hk af)).trans HF.out⟩
end Go.Proofs.YtnakejhohdbfdaaGreatDoor
namespace Go.Proofs.YtnakejhohdbfdaaGreatDoor
open Go.RowKit jN Go.Maps Go.Proofs.Tryz
theorem Vl:(Tryz.prog.info? 202).map (fun i=>(i.zero,i.size,i.bytes))=some (some (.agg #[.int .i32 0,.int .i64 0,.int .i64 0,.int .i64 0]),4,32):=by kernel_rfl
def cls (s:ByteArray)(k:Nat):Int:=iK.look iK.gm (gJ.rune s k)
def oI (s:ByteArray):Nat->List Value
 | 0=>[]
 | k+1=>oI s k++[.int .i32 (gJ.rune s k),.int .i64 (cls s k),.int .i64 (cls s k),.int .i64 0]
theorem CX (s:ByteArray):∀k,(oI s k).length=k * 4
 | 0=>rfl
 | k+1=>by rw[oI,aG,CX s k];simp;omega
theorem rY (s:ByteArray):∀n i,i<n->(oI s n)[i * 4]?=some (.int .i32 (gJ.rune s i))/\(oI s n)[i * 4+1]?=some (.int .i64 (cls s i))/\(oI s n)[i * 4+2]?=some (.int .i64 (cls s i))/\(oI s n)[i * 4+3]?=some (.int .i64 0)
 | 0,i,h=>absurd h (bE _)
 | n+1,i,h=>by
   have hl:=CX s n
   rcases Nat.lt_succ_iff_lt_or_eq.1 h with h1 | h1
   ·obtain⟨a1,a2,a3,a4⟩:=rY s n i h1
    rw[oI];refine⟨?_,?_,?_,?_⟩ <;> rw[aJ (by omega)] <;> assumption
   ·subst h1
    rw[oI];refine⟨?_,?_,?_,?_⟩ <;> rw[aI (by omega),hl]
    ·simp
    ·simp[show i * 4+1 - i * 4=1 by omega]
    ·simp[show i * 4+2 - i * 4=2 by omega]
    ·simp[show i * 4+3 - i * 4=3 by omega]
theorem RH (a b c d:Int):∀u∈[Value.int .i32 a,.int .i64 b,.int .i64 c,.int .i64 d],u.oneCell'=true:=by
 intro u hu;simp at hu
 rcases hu with rfl | rfl | rfl | rfl <;> rfl
def YJ (w:World)(p:Nat)(cs:Array Value):Prop:=w.heap[p]?=some (.cells cs 137 (0,0))
theorem RI {w:World}{B U n cap:Nat}{s:ByteArray}(h:w.ownsRow B 202 4 (.slice (some ⟨U,0,none⟩) n cap) n (oI s n)):US w ⟨U,n,Rl s n,Kl s n⟩ (Kl s n) (List.replicate (Kl s n).length 0):=by
 have hk:∀i,i<n->nth (Kl s n) i=cls s i:=fun i hi=>by simp[nth,Kl,cls,hi]
 refine⟨fun i hi=>?_,fun i hi=>?_,fun i hi=>?_,fun i hi=>?_,fun j _=>h.frozenAt j,kG s n,by rw[List.length_replicate,kG]⟩ <;> dsimp only at hi ⊢
 ·rw[h.cellAt _ (by omega),(rY s n i hi).1,K0 s hi]
 ·rw[h.cellAt _ (by omega),(rY s n i hi).2.1,hk i hi]
 ·rw[h.cellAt _ (by omega),(rY s n i hi).2.2.1,hk i hi]
 ·rw[h.cellAt _ (by omega),(rY s n i hi).2.2.2]
  have:nth (List.replicate (Kl s n).length 0) i=0:=by simp[nth,kG,hi]
  rw[this]
theorem Ny {w:World}{base:Nat}{e:TypeId}{size:Nat}{v:Value}{n:Nat}{xs:List Value}(h:w.ownsRow base e size v n xs){k:Nat}{s:ByteArray}{p:Nat}(hk:w.heap[k]?=some (.stringIter s p))(q:Nat):(w.iterAt k s q).ownsRow base e size v n xs:=by
 refine⟨h.1,?_⟩
 rcases h.2 with h1 | ⟨g,cap,cur,hv,hg,hh,r⟩
 ·exact .inl h1
 ·refine .inr ⟨g,cap,cur,hv,hg,?_,r⟩
  rw[Lib.iterAt_other w k g s q (fun e=>by rw[e,hk]at hh;cases hh)];exact hh
theorem At {w:World}{b:Nat}{s:ByteArray}{p:Nat}(h:w.heap[b]?=some (.stringIter s p)):w.iterPos b=p:=by simp[World.iterPos,h]
theorem FN {w w1 w':World}(h:Fr [] w1 w')(hB:w.heap.size<=w1.heap.size):Below w.heap.size w1 w':=h.below hB (fun _ hk=>absurd hk af)
theorem CY {w w':World}{i:Nat}{v:Value}(h:Below w.heap.size w w'):Below w.heap.size w (w'.setCell ⟨w.heap.size,i,none⟩ v) :=
 ⟨h.os,h.tape,h.output,a_ h.size (by simp),fun k hk=>by rw[fK _ _ _ _ (by dsimp only;omega)];exact h.block k hk⟩
theorem RJ (s:ByteArray)(w:World)(hs:s.size<=1000000)(h3:mE.TabAt w 3 iK.iN)(h4:mE.TabAt w 4 iK.g_)(n:Nat)(hend:gJ.Ends s n)(hn0:0<n) :
 Calls prog 72 #[.string s] w fun e w'=>∃P U cU mb D,e=.returned (.pointer (some ⟨P,0,none⟩))/\US w' ⟨U,n,Rl s n,Kl s n⟩ (Kl s n) (List.replicate (Kl s n).length 0)/\QM w' ⟨U,n,Rl s n,Kl s n⟩ P cU mb n 0 D/\mb≠U/\Fr [] w w'/\w'.frozen? ⟨P,2,none⟩=false/\w.heap.size<=P/\w.heap.size<=U:=by
 obtain⟨i0,hi,hz0,hz1,hz2⟩:=e_ Vl;have HT3:=hid h3;have HT4:=hid h4;have l3:=h3.lt (by rw[iK.qJ];decide);have l4:=h4.lt (by rw[iK.oZ];decide);have qi:=hid hend;have hnb:n<=1000000:=by have:=gJ.lU s n;have:=hend.1;omega
 clear h3 h4 hend;go_enter func72,ntmps72;go_wp2_with fail;go_loopw [5] (fun _ wr=>∃(k p:Nat) (vU:Value),p<=s.size/\k<=p/\wr.heap[w.heap.size+1]?=some (.stringIter s p)/\Hid (p=gJ.pos s k)/\Hid (∀j,j<k->gJ.pos s j<s.size)/\Hid (YJ wr w.heap.size #[vU,.map none,.int .i64 0])/\Hid (wr.ownsRow (w.heap.size+1+1) 202 4 vU k (oI s k))/\Hid (Below w.heap.size w wr)) (fun _ wr=>s.size - wr.iterPos (w.heap.size+1))
 case atStart =>
  refine⟨0,0,.slice none 0 0,aH _,ak _,?_,hid rfl,hid (fun j hj=>absurd hj (bE _)),hid ?_,hid (eY _ _ _ _),hid ?_⟩
  ·have e:(w.alloc (.cells #[.slice none 0 0,.map none,.int .i64 0] 137)).heap.size=w.heap.size+1:=by simp
   rw[<-e];exact World.iter_heap _ _ _
  ·exact(Lib.alloc_old _ _ _ (by simp)).trans (fH _ _)
  ·exact((fq _ _).alloc (ak _) _).alloc (by simp) _
 case round =>
  obtain⟨k,p,vU,hp,hkp,hit,HP,HJ,HA,HO,HB⟩:=hrel;obtain⟨a1,c1,hv1⟩:=gA HO.out;subst hv1;by_cases hlt:p<s.size
  ·have hw1:=gJ.width_pos s p
   have hw2:=gJ.width_le s p hlt;have hnx:=fun ty=>Lib.run_next_any_at (P:=prog) wr (w.heap.size+1) s p ty hit hlt
   have HQ:Hid (p+(Utf8.decode s p).2=gJ.pos s (k+1)):=by rw[HP.out];rfl
   have HK:Hid ((((Utf8.decode s p).1:Nat):Int)=gJ.rune s k):=by rw[HP.out];rfl
   generalize (Utf8.decode s p).1=r at hnx HK;generalize (Utf8.decode s p).2=wd at hnx HQ hw1 hw2;have hJ2:Hid (∀j,j<k+1->gJ.pos s j<s.size):=by
    intro j hj
    rcases aA (aM hj)with h1 | h1
    ·exact HJ.out j h1
    ·rw[h1,<-HP.out];exact hlt
   have HI:=hid (Lib.iterAt_heap wr (w.heap.size+1) s p (p+wd) hit);have It:=hid (Lib.below_iterAt HB.out (show w.heap.size<=w.heap.size+1 by omega) s (p+wd));have Ug:=hid ((Lib.iterAt_other wr (w.heap.size+1) w.heap.size s (p+wd) (by omega)).trans HA.out);have GP:=hid (Ny HO.out hit (p+wd));have HIT:=hid hit;generalize wr.iterAt (w.heap.size+1) s (p+wd)=wi at hnx HI It Ug GP;have HC:=hid (mE.B4 (r:Nat) wi (HT3.out.below l3 It.out) (HT4.out.below l4 It.out));have FV:=hid (show iK.look iK.gm ((r:Nat):Int)=cls s k by rw[HK.out];rfl);generalize iK.look iK.gm ((r:Nat):Int)=c at HC FV;clear hit HO HA;go_wp2_with fail;refine HC.out.mono ?_;rintro e w1 ⟨rfl,hb1⟩;have iy:=hid (Fr.of_below (S:=[]) hb1);have HI1:Hid (w1.heap[w.heap.size+1]?=some (.stringIter s (p+wd))):=by
    rw[hb1.block _ (aD.1 HI.out).1];exact HI
   have hA1:=(hb1.block w.heap.size (aD.1 Ug.out).1).trans Ug.out;have HA1:=hid hA1;have kT:=hid (fS GP.out iy.out);have HB1:=hid (It.out.trans (hb1.mono It.out.size));have g0:w1.cell? ⟨w.heap.size,0,none⟩=some (.slice a1 k c1):=by rw[fu w1 _ 0 _ _ _ hA1];rfl
   have rW:w.heap.size<w1.heap.size:=(aD.1 hA1).1;have hil:w.heap.size+1<w1.heap.size:=(aD.1 HI1.out).1;clear hA1 hb1 HC HI It Ug GP;go_wp2_with (at_builtin;refine eV _ rfl _ _ 134 rfl (w.heap.size+1+1) 202 i0 _ 4 32 underlying134 hi hz0 hz1 hz2 rfl (by decide) _ k (oI s k) rfl ?own _ 1 1 [.int .i32 r,.int .i64 c,.int .i64 c,.int .i64 0] rfl rfl (iC _ _ _ _ (by simp)) (RH _ _ _ _) (by unfold maxLen;omega) (by omega) ?nY ?_)
   case own=>exact fS kT.out ((Fr.refl [] w1).alloc _)
   case nY=>simp;omega
   intro v' w3 gM hgrow hnil;obtain⟨g',c',hv'⟩:=fR (by omega) gM;subst hv';have hne:∀x,(Value.slice a1 k c1).ownBlock=some x->w.heap.size+1+1<=x:=fun x hx=>(kT.out.lt x hx).1
   have Eu:=hid (show YJ w3 w.heap.size #[.slice a1 k c1,.map none,.int .i64 0]from(hgrow.block w.heap.size (by simp;omega) (fun e=>by have:=hne _ e.symm;omega)).trans ((Lib.alloc_old _ _ _ rW).trans HA1.out));have HI3:=hid (show w3.heap[w.heap.size+1]?=some (.stringIter s (p+wd))from(hgrow.block (w.heap.size+1) (by simp;omega) (fun e=>by have:=hne _ e.symm;omega)).trans ((Lib.alloc_old _ _ _ hil).trans HI1.out));have HB3:=hid ((HB1.out.alloc (bZ rW) (.cells #[.int .i32 r,.int .i64 c,.int .i64 c,.int .i64 0] 202)).grown hgrow (by simp;omega) (fun x hx=>by have:=hne x hx;omega));have k9:=hid gM;have f0:w3.cell? ⟨w.heap.size,0,none⟩=some (.slice a1 k c1):=by rw[fu w3 _ 0 _ _ _ Eu.out];rfl
   have f1:=fF w3 w.heap.size 0 _ 137 Eu.out;have tK:w.heap.size+1+1<=g':=(fZ gM).1;clear gM hgrow hnil hne;go_wp2;go_roundw
   case rel =>
    refine⟨k+1,p+wd,_,by omega,by omega,?_,HQ,hJ2,hid (fA w3 w.heap.size 0 _ 137 _ Eu.out),hid ?_,hid (CY HB3.out)⟩
    ·rw[fK _ _ _ _ (by dsimp only;omega)];exact HI3.out
    ·rw[oI,<-FV.out,<-HK.out]
     exact j_ k9.out (gH _ w.heap.size 0 _) (fun y hy hm=>by cases hy;have h5:g'=w.heap.size:=aj.1 hm;omega)
   case measure=>rw[At (show(w3.setCell ⟨w.heap.size,0,none⟩ _).heap[w.heap.size+1]?=some (.stringIter s (p+wd)) by rw[fK _ _ _ _ (by dsimp only;omega)];exact HI3.out),At HIT.out];omega
  ·have hpe:p=s.size:=by omega
   have hkn:n=k:=(gJ.jT ⟨by rw[<-HP.out];exact hpe,HJ.out⟩ qi.out).symm;subst hkn;have hnx:=fun ty=>Lib.run_next_end_at (P:=prog) wr (w.heap.size+1) s p ty hit hlt
   obtain⟨U,cU,hsh⟩:=fR hn0 HO.out;cases hsh;have HU:=hid (RI HO.out);have hUg:=fZ HO.out;have ab7:=hid (Ra ⟨U,n,Rl s n,Kl s n⟩ (Kl s n) (List.replicate (Kl s n).length 0) c1 wr HU.out hnb hn0);dsimp only at ab7;have g0:wr.cell? ⟨w.heap.size,0,none⟩=some (.slice (some ⟨U,0,none⟩) n c1):=by rw[fu wr _ 0 _ _ _ HA.out];rfl
   have rW:w.heap.size<wr.heap.size:=(aD.1 HA.out).1;clear hpe;go_wp2_with (first | (go_at_call 125;refine ab7.out.mono ?_;rintro e w1 ⟨rfl,hD,hf1⟩;obtain⟨D,hD1,hD2⟩:=hD;have HD1:=hid hD1;have HD2:=hid hD2;have iy:=hid hf1;have HA1:=hid (show YJ w1 w.heap.size #[.slice (some ⟨U,0,none⟩) n c1,.map none,.int .i64 0]from(hf1.block w.heap.size rW af).trans HA.out);have f0:w1.cell? ⟨w.heap.size,1,none⟩=some (.map none):=(by rw[fu w1 _ 1 _ _ _ HA1.out];rfl);have f1:=fF w1 w.heap.size 1 _ 137 HA1.out;clear hD1 hD2 hf1));go_ret;have HA2:=fA w1 w.heap.size 1 _ 137 (.map (some wr.heap.size)) HA1.out;have hset:=gH w1 w.heap.size 1 (.map (some wr.heap.size));have hne:U ∉ [w.heap.size]:=fun h=>by have:=aj.1 h;omega
   refine⟨w.heap.size,U,c1,wr.heap.size,D,rfl,(HU.out.fr iy.out af).fr hset hne,⟨⟨?_,?_,by dsimp only;omega⟩,?_,HD1.out.setCell (by dsimp only;omega) _,HD2.out⟩,by omega,?_,fF _ _ 2 _ 137 HA2,ak _,by omega⟩
   ·rw[fu _ _ 0 _ _ _ HA2];rfl
   ·rw[fu _ _ 2 _ _ _ HA2];rfl
   ·rw[fu _ _ 1 _ _ _ HA2];rfl
   ·exact Fr.of_below (CY (HB.out.trans (FN iy.out HB.out.size)))
end Go.Proofs.YtnakejhohdbfdaaGreatDoor

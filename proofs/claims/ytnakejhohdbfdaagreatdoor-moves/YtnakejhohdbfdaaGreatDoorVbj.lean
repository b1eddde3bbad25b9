import Derived.Test.YtnakejhohdbfdaaGreatDoorVbi
set_option maxHeartbeats 4000000
set_option maxRecDepth 100000
namespace Go.Proofs.YtnakejhohdbfdaaGreatDoor
open Go.RowKit jN Lay uS Go.Shelf Go.Proofs.Tryz
attribute [local go_sem] Oper.semAt_some
theorem Sb (gT n cT:Nat)(R:List Int)(p:Nat->Nat)(gL cL ge m ce:Nat)(bs z:Int)(Ed K LV:List Int)(ed:Nat->Bool)(w:World)(hn0:0<n)(hn:n<=1000)(hK:K.length=n)(Tu:LV.length=n)(hm0:0<m)(hm:m=Ed.length)(hm1:m<=1000)(hr:jf Ed z)
 (hT:ND w gT n R p) (hL:rowAt w gL n LV) (hLf:soft w gL n) (hE:rowAt w ge m Ed) (hgE:ge≠gL) (Xb:gT≠gL)
 (acu:∀x,x<n->∀X:World,Fr [gL] w X->Calls prog 124 #[.int .i32 (nth R x)] X fun e w'=>e=.returned (.int .i64 (nth K x))/\Fr [] X w')
 (hed:∀x,x<n->Ed.contains ((p (x+1):Nat):Int)=ed (x+1)) (acv:mg K ed n=false) :
 Calls prog 206 #[.slice (some ⟨gT,0,none⟩) n cT,.slice (some ⟨gL,0,none⟩) n cL,.int .i64 bs,.slice (some ⟨ge,0,none⟩) m ce] w fun e w'=>e=.returned (.tuple #[])/\rowAt w' gL n (vJ K LV bs ed 0)/\Fr [gL] w w':=by
 have hTw:gT<w.heap.size:=eS _ _ (hT 0 hn0).1;have hLw:gL<w.heap.size:=eS _ _ (hL 0 hn0);have hEw:ge<w.heap.size:=eS _ _ (hE 0 hm0);have HST:=hid (fun w=>NE gT n cT w);have agI:=hid (fun(y:Int) (X:World) (h:rowAt X ge m Ed)=>by have h5:=Cw Ed z hr y ge ce X (by omega) (by rw[<-hm];exact h);rw[<-hm]at h5;exact h5);have HC:=hid acu;have Dx:=hid hed;have Ez:=hid hK;have HT:=hid hT;have HL:=hid (show rowAt w gL n (vJ K LV bs ed n) by rw[<-Tu,J5,Tu];exact hL);have Uw:=hid hLf;have HE:=hid hE;have PV:=hid acv;have IE:=hid Tu;clear hT hL hLf hE acu hed hr acv hm hK Tu;refine(eX (n:=3)).1 ?_;refine callsIn_of_wp_marks func206 rfl trivial ?_ rfl;simp only[ntmps206,dD,bO,List.length_nil,Nat.reduceAdd,Nat.reduceSub,cY,cZ,dF,dw,bU,b8];gi_wp2_with (refine⟨trivial,?_⟩;gi_at_call 227;refine(eX.2 (HST.out _)).mono ?_;rintro e w' ⟨rfl,rfl⟩);obtain⟨W0,hW0⟩:∃W0,((((w.alloc (.cells #[.slice (some ⟨gL,0,none⟩) n cL] 22)).alloc (.cells #[.int .i64 bs] 3)).alloc (.cells #[.slice (some ⟨ge,0,none⟩) m ce] 22)).alloc (.cells #[.bool false] 4)).alloc (.cells #[.slice (some ⟨gT,0,none⟩) n cT] 29)=W0:=⟨_,rfl⟩;have hsz:W0.heap.size=w.heap.size+5:=by rw[<-hW0];simp
 have FX:VE w W0.heap.size gT n cT R p gL cL bs ge m ce Ed K LV ed n W0:=by
  have hf:Fr [] w W0:=by rw[<-hW0];exact(((((Fr.refl [] w).alloc _).alloc _).alloc _).alloc _).alloc _
  have k0:W0.heap[w.heap.size]?=some (.cells #[.slice (some ⟨gL,0,none⟩) n cL] 22 (0,0)):=by
   rw[<-hW0];exact fO (fU w _) (((((Fr.refl [] _).alloc _).alloc _).alloc _).alloc _) af
  have k1:W0.heap[w.heap.size+1]?=some (.cells #[.int .i64 bs] 3 (0,0)):=by
   have h:=fO (fU (w.alloc (.cells #[.slice (some ⟨gL,0,none⟩) n cL] 22)) (.cells #[.int .i64 bs] 3)) ((((Fr.refl [] _).alloc (.cells #[.slice (some ⟨ge,0,none⟩) m ce] 22)).alloc (.cells #[.bool false] 4)).alloc (.cells #[.slice (some ⟨gT,0,none⟩) n cT] 29)) af;rw[hW0]at h;simpa using h
  have k2:W0.heap[w.heap.size+2]?=some (.cells #[.slice (some ⟨ge,0,none⟩) m ce] 22 (0,0)):=by
   have h:=fO (fU ((w.alloc (.cells #[.slice (some ⟨gL,0,none⟩) n cL] 22)).alloc (.cells #[.int .i64 bs] 3)) (.cells #[.slice (some ⟨ge,0,none⟩) m ce] 22)) (((Fr.refl [] _).alloc (.cells #[.bool false] 4)).alloc (.cells #[.slice (some ⟨gT,0,none⟩) n cT] 29)) af;rw[hW0]at h;simpa using h
  have k3:W0.heap[w.heap.size+3]?=some (.cells #[.bool false] 4 (0,0)):=by
   have h:=fO (fU (((w.alloc (.cells #[.slice (some ⟨gL,0,none⟩) n cL] 22)).alloc (.cells #[.int .i64 bs] 3)).alloc (.cells #[.slice (some ⟨ge,0,none⟩) m ce] 22)) (.cells #[.bool false] 4)) ((Fr.refl [] _).alloc (.cells #[.slice (some ⟨gT,0,none⟩) n cT] 29)) af;rw[hW0]at h;simpa using h
  have k4:W0.heap[w.heap.size+4]?=some (.cells #[.slice (some ⟨gT,0,none⟩) n cT] 29 (0,0)):=by
   have h:=fU ((((w.alloc (.cells #[.slice (some ⟨gL,0,none⟩) n cL] 22)).alloc (.cells #[.int .i64 bs] 3)).alloc (.cells #[.slice (some ⟨ge,0,none⟩) m ce] 22)).alloc (.cells #[.bool false] 4)) (.cells #[.slice (some ⟨gT,0,none⟩) n cT] 29);rw[hW0]at h;simpa using h
  exact⟨⟨HT.out.fr hf af,fN k4 (i:=0) rfl⟩,fN k0 (i:=0) rfl,fN k1 (i:=0) rfl,fN k2 (i:=0) rfl,by rw[PV.out];exact fN k3 (i:=0) rfl,fT k3 0,HE.out.fr hf af,HL.out.fr hf af,fun i hi=>hf.j8 (HL.out i hi) af (Uw.out i hi),hf.mono (fun _ h _=>absurd h af),ak _⟩
 rw[hW0];refine vZ rfl (by omega) (gf:=248) (lb:=#[.pointer (some ⟨w.heap.size+4,0,none⟩)]) rfl trivial (enters_of func248 (by kernel_rfl) rfl)
  (encs:=fun x:Nat=>#[.int .i64 x,.agg #[.int .i32 (nth R x),.int .i64 (p x:Nat),.int .i64 (p (x+1):Nat)]]) (fun _=>rfl)
  (VE w W0.heap.size gT n cT R p gL cL bs ge m ce Ed K LV ed) (fun _ _ h=>h.n) (fun _ _ _ h hb=>h.below hsz hTw hLw hEw hb)
  (fun j x=>j=x+1/\x<n) (fun _ x=>x) n 0
  (fun l V' W h1 h2 h3 h4=>VF gT n cT R p _ (by omega) _ l V' (fun C A h=>(h1 C A h).v) h3 W h4)
  (fun x=>.cells #[.int .i32 (nth R x),.int .i64 (p x:Nat),.int .i64 (p (x+1):Nat)] 94)
  (fun x b=>{ tmps:=#[.slice (some ⟨gT,0,none⟩) n cT,.slice (some ⟨gL,0,none⟩) n cL,.int .i64 bs,.slice (some ⟨ge,0,none⟩) m ce,undef,.pointer (some ⟨w.heap.size,0,none⟩),.pointer (some ⟨w.heap.size+1,0,none⟩),.pointer (some ⟨w.heap.size+2,0,none⟩),.pointer (some ⟨w.heap.size+3,0,none⟩),.int .i64 x,.pointer (some ⟨b,0,none⟩),undef,undef,undef,.slice (some ⟨gT,0,none⟩) n cT,.func (.func 248) #[] #[.pointer (some ⟨w.heap.size+4,0,none⟩)],.int .i64 x,.agg #[.int .i32 (nth R x),.int .i64 (p x:Nat),.int .i64 (p (x+1):Nat)],undef,undef,undef,undef,undef,undef,undef,undef,undef,undef,undef,undef,undef,undef,undef,undef,undef,undef,undef,undef,undef,undef,undef,undef,undef,undef,undef,undef,undef,undef,undef],defers:=[] })
  FX ?assign ?body ?done
 case assign =>
  intro l x W K hK;gi_wp2;exact hK
 case body =>
  rintro l j x A b hV ⟨rfl,hx⟩ GV hb;have r0:=fN GV (i:=0) rfl;have qy:=hid GV;have HV:=hid hV;have H1:=hid (HC.out x hx A hV.f);have HS2:=hid (Cd K ed (i:=x) (by rw[Ez.out];exact hx));have HDD:=hid (Dx.out x hx);have Xm:(x:Int)<(n:Int):=by omega
  have Z5:=hid (fun X:World=>J1 (nth K x) X);generalize nth K x=c at *;clear FX hW0 HST GV;have R2:=hid (fN qy.out (i:=2) rfl);have B0:=hid HV.out.b0;have B1:=hid HV.out.b1;have B2:=hid HV.out.b2;have B3:=hid HV.out.b3;have F3:=hid HV.out.f3;have L0:=hid (HV.out.l x hx);have L1:=hid (HV.out.lf x hx);clear hV;have H2:=hid (fun(X:World) (h:rowAt X ge m Ed)=>by have h5:=agI.out ((p (x+1):Nat):Int) X h;rw[HDD.out]at h5;exact h5);generalize cidx Ed ((p (x+1):Nat):Int)=ci at *;have VH:=hid (fun(B:World) (he:mg K ed x=true) (hG:Fr [] A B)=>HV.out.yes hx IE.out hsz hTw hLw hEw hgE Xb he hG);have zi:=hid (fun(B:World) (he:mg K ed x=false) (hG:Fr [] A B)=>HV.out.no hsz hTw hLw hEw he hG);by_cases h11:c=11
  ·subst h11
   have Tq:=hid (show mg K ed x=true by rw[HS2.out];simp[stops]);generalize ed (x+1)=dd at *;generalize mg K ed (x+1)=e1 at *;gi_wp2_with (first | (refine⟨trivial,?_⟩;gi_at_call 124;refine(CallsIn.inRound l (eX.2 H1.out)).mono ?_;rintro e w1 ⟨rfl,hf1⟩;have iy:=hid hf1;have r2:=hf1.cell R2.out af;have d2:=hf1.cell B2.out af;have d3:=hf1.cell B3.out af;have d4:=hf1.j8 B3.out af F3.out;have d0:=hf1.cell B0.out af;have d1:=hf1.cell B1.out af;have l0:=hf1.cell L0.out af;have l1:=hf1.j8 L0.out af L1.out;have jK:=hid (HV.out.e.fr hf1 af);clear hf1) | (refine⟨trivial,?_⟩;gi_at_call 166;refine(CallsIn.inRound l (eX.2 (H2.out _ jK.out))).mono ?_;rintro e w2 ⟨rfl,q,rfl⟩) | (refine⟨trivial,?_⟩;gi_at_call 228;refine(CallsIn.inRound l (eX.2 (Z5.out _))).mono ?_;rintro e w3 ⟨rfl,rfl⟩) | (refine⟨trivial,?_⟩));exact VH.out _ Tq.out (iy.out.trans (jr _ _))
  ·by_cases h10:c=10
   ·subst h10
    have Tq:=hid (show mg K ed x=true by rw[HS2.out];simp[stops]);generalize ed (x+1)=dd at *;generalize mg K ed (x+1)=e1 at *;gi_wp2_with (first | (refine⟨trivial,?_⟩;gi_at_call 124;refine(CallsIn.inRound l (eX.2 H1.out)).mono ?_;rintro e w1 ⟨rfl,hf1⟩;have iy:=hid hf1;have r2:=hf1.cell R2.out af;have d2:=hf1.cell B2.out af;have d3:=hf1.cell B3.out af;have d4:=hf1.j8 B3.out af F3.out;have d0:=hf1.cell B0.out af;have d1:=hf1.cell B1.out af;have l0:=hf1.cell L0.out af;have l1:=hf1.j8 L0.out af L1.out;have jK:=hid (HV.out.e.fr hf1 af);clear hf1) | (refine⟨trivial,?_⟩;gi_at_call 166;refine(CallsIn.inRound l (eX.2 (H2.out _ jK.out))).mono ?_;rintro e w2 ⟨rfl,q,rfl⟩) | (refine⟨trivial,?_⟩;gi_at_call 228;refine(CallsIn.inRound l (eX.2 (Z5.out _))).mono ?_;rintro e w3 ⟨rfl,rfl⟩) | (refine⟨trivial,?_⟩));exact VH.out _ Tq.out (iy.out.trans (jr _ _))
   ·have alZ:(c == 11)=false:=by simp[h11]
    have al0:(c == 10)=false:=by simp[h10]
    have Tq:=hid (show mg K ed x=(trail c && (mg K ed (x+1) || ed (x+1))) by rw[HS2.out];simp[stops,h11,h10]);generalize ed (x+1)=dd at *;generalize mg K ed (x+1)=e1 at *;generalize trail c=tr at *;cases tr
    ·gi_wp2_with (first | (refine⟨trivial,?_⟩;gi_at_call 124;refine(CallsIn.inRound l (eX.2 H1.out)).mono ?_;rintro e w1 ⟨rfl,hf1⟩;have iy:=hid hf1;have r2:=hf1.cell R2.out af;have d2:=hf1.cell B2.out af;have d3:=hf1.cell B3.out af;have d4:=hf1.j8 B3.out af F3.out;have d0:=hf1.cell B0.out af;have d1:=hf1.cell B1.out af;have l0:=hf1.cell L0.out af;have l1:=hf1.j8 L0.out af L1.out;have jK:=hid (HV.out.e.fr hf1 af);clear hf1) | (refine⟨trivial,?_⟩;gi_at_call 166;refine(CallsIn.inRound l (eX.2 (H2.out _ jK.out))).mono ?_;rintro e w2 ⟨rfl,q,rfl⟩) | (refine⟨trivial,?_⟩;gi_at_call 228;refine(CallsIn.inRound l (eX.2 (Z5.out _))).mono ?_;rintro e w3 ⟨rfl,rfl⟩) | (refine⟨trivial,?_⟩))
     exact zi.out _ (by rw[Tq.out];rfl) (iy.out.trans (jr _ _))
    ·cases e1
     ·cases dd
      ·gi_wp2_with (first | (refine⟨trivial,?_⟩;gi_at_call 124;refine(CallsIn.inRound l (eX.2 H1.out)).mono ?_;rintro e w1 ⟨rfl,hf1⟩;have iy:=hid hf1;have r2:=hf1.cell R2.out af;have d2:=hf1.cell B2.out af;have d3:=hf1.cell B3.out af;have d4:=hf1.j8 B3.out af F3.out;have d0:=hf1.cell B0.out af;have d1:=hf1.cell B1.out af;have l0:=hf1.cell L0.out af;have l1:=hf1.j8 L0.out af L1.out;have jK:=hid (HV.out.e.fr hf1 af);clear hf1) | (refine⟨trivial,?_⟩;gi_at_call 166;refine(CallsIn.inRound l (eX.2 (H2.out _ jK.out))).mono ?_;rintro e w2 ⟨rfl,q,rfl⟩) | (refine⟨trivial,?_⟩;gi_at_call 228;refine(CallsIn.inRound l (eX.2 (Z5.out _))).mono ?_;rintro e w3 ⟨rfl,rfl⟩) | (refine⟨trivial,?_⟩))
       exact zi.out _ (by rw[Tq.out];rfl) (iy.out.trans (jr _ _))
      ·gi_wp2_with (first | (refine⟨trivial,?_⟩;gi_at_call 124;refine(CallsIn.inRound l (eX.2 H1.out)).mono ?_;rintro e w1 ⟨rfl,hf1⟩;have iy:=hid hf1;have r2:=hf1.cell R2.out af;have d2:=hf1.cell B2.out af;have d3:=hf1.cell B3.out af;have d4:=hf1.j8 B3.out af F3.out;have d0:=hf1.cell B0.out af;have d1:=hf1.cell B1.out af;have l0:=hf1.cell L0.out af;have l1:=hf1.j8 L0.out af L1.out;have jK:=hid (HV.out.e.fr hf1 af);clear hf1) | (refine⟨trivial,?_⟩;gi_at_call 166;refine(CallsIn.inRound l (eX.2 (H2.out _ jK.out))).mono ?_;rintro e w2 ⟨rfl,q,rfl⟩) | (refine⟨trivial,?_⟩;gi_at_call 228;refine(CallsIn.inRound l (eX.2 (Z5.out _))).mono ?_;rintro e w3 ⟨rfl,rfl⟩) | (refine⟨trivial,?_⟩))
       exact VH.out _ (by rw[Tq.out];rfl) (iy.out.trans (jr _ _))
     ·gi_wp2_with (first | (refine⟨trivial,?_⟩;gi_at_call 124;refine(CallsIn.inRound l (eX.2 H1.out)).mono ?_;rintro e w1 ⟨rfl,hf1⟩;have iy:=hid hf1;have r2:=hf1.cell R2.out af;have d2:=hf1.cell B2.out af;have d3:=hf1.cell B3.out af;have d4:=hf1.j8 B3.out af F3.out;have d0:=hf1.cell B0.out af;have d1:=hf1.cell B1.out af;have l0:=hf1.cell L0.out af;have l1:=hf1.j8 L0.out af L1.out;have jK:=hid (HV.out.e.fr hf1 af);clear hf1) | (refine⟨trivial,?_⟩;gi_at_call 166;refine(CallsIn.inRound l (eX.2 (H2.out _ jK.out))).mono ?_;rintro e w2 ⟨rfl,q,rfl⟩) | (refine⟨trivial,?_⟩;gi_at_call 228;refine(CallsIn.inRound l (eX.2 (Z5.out _))).mono ?_;rintro e w3 ⟨rfl,rfl⟩) | (refine⟨trivial,?_⟩))
      exact VH.out _ (by rw[Tq.out];rfl) (iy.out.trans (jr _ _))
 case done =>
  rintro D A hV hD hKd;have HV:=hid hV;clear hV FX hW0;gi_wp2;refine⟨by simp,.inl ⟨_,_,rfl,run_takeDeferred hKd,?_⟩⟩;refine⟨_,results_none rfl _ _ _,rfl,?_,?_⟩
  ·exact(HV.out.below hsz hTw hLw hEw (iP hD _)).l
  ·exact(HV.out.below hsz hTw hLw hEw (iP hD _)).f
end Go.Proofs.YtnakejhohdbfdaaGreatDoor
namespace Go.Proofs
open Go.Shelf Go.Proofs.Tryz
namespace YtnakejhohdbfdaaGreatDoor
open Go.RowKit Go.Proofs.Tryz
end YtnakejhohdbfdaaGreatDoor
end Go.Proofs
namespace Go.Proofs.YtnakejhohdbfdaaGreatDoor
open Go.RowKit jN Lay Go.Proofs.Tryz
def sl0 (w:World)(B:Nat)(v:Value)(l:List Int):Prop:=∃a c,v=.slice a l.length c/\(l.length=0\/∃g,a=some ⟨g,0,none⟩/\B<=g/\rowAt w g l.length l)
theorem sl0.fr {S:List Nat}{w w':World}{B:Nat}{v:Value}{l:List Int}(h:sl0 w B v l)(hf:Fr S w w')(hS:∀k∈S,k<B):sl0 w' B v l:=by
 obtain⟨a,c,h1,h2⟩:=h;refine⟨a,c,h1,h2.imp id ?_⟩;rintro ⟨g,h3,h4,h5⟩;exact⟨g,h3,h4,h5.fr hf (fun hm=>by have:=hS g hm;omega)⟩
def NF (B V X:List Int)(c:Nat):List (Int × Int × Int × Int):=(List.range c).map fun i=>(nth B i,nth B (i+1),nth V i,nth X i)
theorem K9 (B V X:List Int)(c:Nat):(NF B V X c).length=c:=by simp[NF]
theorem J6 (B V X:List Int){c i:Nat}(h:i<c):(NF B V X c)[i]?=some (nth B i,nth B (i+1),nth V i,nth X i):=by simp[NF,h]
theorem sl0.row {w:World}{B:Nat}{v:Value}{l:List Int}(h:sl0 w B v l)(h0:0<l.length):∃g c,v=.slice (some ⟨g,0,none⟩) l.length c/\B<=g/\rowAt w g l.length l:=by
 obtain⟨a,c,h1,h2⟩:=h
 rcases h2 with h3 | ⟨g,rfl,h4,h5⟩
 ·omega
 ·exact⟨g,c,h1,h4,h5⟩
end Go.Proofs.YtnakejhohdbfdaaGreatDoor
namespace Go.Proofs.YtnakejhohdbfdaaGreatDoor
open Go.RowKit jN Go.Proofs.Tryz
theorem K_ (P:Int->Prop)(h0:P 0):∀(l:List (Int × Int × Int)) (r:Int),(∀x∈l,P x.2.2)->P (iK.look l r)
 | [],_,_=>h0
 | x :: l,r,h=>by
   rw[iK.look];split
   ·exact h x bA
   ·exact K_ P h0 l r (fun y hy=>h y (cP _ hy))
theorem Sc (r:Int):0<=iK.look iK.gm r/\iK.look iK.gm r<=22 :=
 K_ (fun c=>0<=c/\c<=22) (by decide) iK.gm r (by decide)
theorem acA (s:ByteArray)(n:Nat):∀i,0<=nth (Kl s n) i/\nth (Kl s n) i<=22:=fun i=>by
 by_cases h:i<n
 ·have e:nth (Kl s n) i=iK.look iK.gm (gJ.rune s i):=by simp[nth,Kl,h]
  rw[e];exact Sc _
 ·have e:nth (Kl s n) i=0:=by simp[nth,Kl,h]
  rw[e];decide
structure Ground (w:World):Prop where
 u:Lib.Utf8Tabs 1 2 w
 t3:mE.TabAt w 3 iK.iN
 t4:mE.TabAt w 4 iK.g_
 e:w.cell? ⟨0,0,none⟩=some (As.KU 86)
open Lay uS
theorem r5 {s:ByteArray}{n:Nat}{b:Int}{W Br:List Int}(h:gJ.Ends s n)(hs:s.size<=400)(hb:b=0\/b=1\/b=2)(hc:tu s n (iY s n) b W Br=0) :
 W.length=n/\Lay.Et W n=true/\Lay.jH (bnd s n) s.size Br Br.length=true:=by
 rw[QA h hs hb]at hc;cases h1:okW W n
 ·rw[ay h1]at hc;cases hc
 ·cases h2:Lay.jH (bnd s n) s.size Br Br.length
  ·rw[au (by rw[h1];decide),ay h2]at hc;cases hc
  ·unfold okW at h1
   rw[b7]at h1;exact⟨dz h1.1,h1.2,rfl⟩
def IF (s:ByteArray)(n:Nat)(bs:Int)(Br:List Int):List Int:=AU s (vJ (Kl s n) (levels (Rl s n) (Kl s n) bs) bs (Iw (jw s n) (bnd s n) Br) 0) n
structure LP (w:World)(B P:Nat)(Bd V X:List Int)(r:Int)(Ls:List Ln)(v0 v1 v2 vL:Value)(hs:List Value):Prop where
 o:w.heap[P]?=some (.cells #[v0,v1,v2,vL,.int .i64 r] 166 (0,0))
 le:B<=P
 b:sl0 w B v0 Bd
 v:sl0 w B v1 V
 x:sl0 w B v2 X
 l:w.ownsRow B 51 4 vL Ls.length hs
 n:∃U,U<=w.heap.size/\lX w B U hs Ls
theorem LP.fr {S:List Nat}{w w':World}{B P:Nat}{Bd V X:List Int}{r:Int}{Ls:List Ln}{v0 v1 v2 vL:Value}{hs:List Value}(h:LP w B P Bd V X r Ls v0 v1 v2 vL hs)(hf:Fr S w w')(hS:∀k∈S,k<B):LP w' B P Bd V X r Ls v0 v1 v2 vL hs:=by
 obtain⟨U,hU,hn⟩:=h.n;exact⟨fO h.o hf (fun hm=>by have:=hS P hm;have:=h.le;omega),h.le,h.b.fr hf hS,h.v.fr hf hS,h.x.fr hf hS,BI h.l hf hS,U,a_ hU hf.size,hn.fr (fun _ _ _ _ _ _ h=>BI h hf hS)⟩
theorem Sd {s:ByteArray}{n:Nat}{Br:List Int}(E:qN s n Br):∀k,k<=Br.length+1->k<=jc s n Br k
 | 0,_=>aH _
 | k+1,h=>by
   have h1:=Sd E k (by omega);have h2:=E.mono k (k+1) (by omega) h;unfold jc at *;omega
theorem acB (s:ByteArray){n i:Nat}(h:i<n):nth (Kl s n) i=iK.look iK.gm (gJ.rune s i):=by simp[nth,Kl,h]
theorem La {S:List Nat}{w w':World}{g:Nat}{l:List (Int × Int × Int)}(h:mE.TabAt w g l)(hf:Fr S w w')(hg:g ∉ S):mE.TabAt w' g l:=fun i hi =>
 ⟨hf.cell (h i hi).1 hg,hf.cell (h i hi).2.1 hg,hf.cell (h i hi).2.2 hg⟩
theorem FP {w:World}{B g c n:Nat}{l:List Int}(hl:l.length=n)(hg:B<=g)(hr:rowAt w g n l):sl0 w B (.slice (some ⟨g,0,none⟩) n c) l:=by
 subst hl;exact⟨_,_,rfl,.inr ⟨g,rfl,hg,hr⟩⟩
theorem EP (K C:List Int)(base:Int)(L:List Int):∀k,(gU K C base k L).2.length=L.length
 | 0=>rfl
 | k+1=>by
   have ih:=EP K C base L k;rw[gU];split <;> rw[aY,ih]
theorem mX (R K:List Int)(base:Int)(hb:base=0\/base=1):(levels R K base).length=K.length:=by
 unfold levels;rw[EP];exact(nM K base hb K.length (ak _)).len.1
theorem yH (s:ByteArray)(Br:List Int)(aB:Option Addr)(cB:Nat)(w:World)(hB:mT w (.slice aB Br.length cB) Br)(hl:Br.length<=1000) :
 Calls prog 205 #[.slice (some ⟨w.heap.size+1+1,0,none⟩) 3 3] (((w.alloc (.cells #[.int .i64 0] 3)).alloc (.cells #[.int .i64 s.size] 3)).alloc (.cells #[.slice (some ⟨w.heap.size,0,none⟩) 1 1,.slice aB Br.length cB,.slice (some ⟨w.heap.size+1,0,none⟩) 1 1] 22))
  fun e w'=>∃g c,e=.returned (.slice (some ⟨g,0,none⟩) (Br.length+2) c)/\Br.length+2<=c/\w.heap.size<=g/\rowAt w' g (Br.length+2) (C9 s Br)/\Fr [] w w':=by
 obtain⟨wc,hwc⟩:∃wc,wc=((w.alloc (.cells #[.int .i64 0] 3)).alloc (.cells #[.int .i64 s.size] 3)).alloc (.cells #[.slice (some ⟨w.heap.size,0,none⟩) 1 1,.slice aB Br.length cB,.slice (some ⟨w.heap.size+1,0,none⟩) 1 1] 22):=⟨_,rfl⟩;rw[<-hwc];have hf:Fr [] w wc:=by rw[hwc];exact(((Fr.refl [] w).alloc _).alloc _).alloc _
 have hsz:wc.heap.size=w.heap.size+3:=by rw[hwc];simp
 have k0:wc.heap[w.heap.size]?=some (.cells #[.int .i64 0] 3 (0,0)):=by
  rw[hwc];exact fO (fU w _) (((Fr.refl [] _).alloc _).alloc _) af
 have k1:wc.heap[w.heap.size+1]?=some (.cells #[.int .i64 s.size] 3 (0,0)):=by
  have h:=fO (fU (w.alloc (.cells #[.int .i64 0] 3)) (.cells #[.int .i64 s.size] 3)) ((Fr.refl [] _).alloc (.cells #[.slice (some ⟨w.heap.size,0,none⟩) 1 1,.slice aB Br.length cB,.slice (some ⟨w.heap.size+1,0,none⟩) 1 1] 22)) af;rw[<-hwc]at h;simpa using h
 have k2:wc.heap[w.heap.size+1+1]?=some (.cells #[.slice (some ⟨w.heap.size,0,none⟩) 1 1,.slice aB Br.length cB,.slice (some ⟨w.heap.size+1,0,none⟩) 1 1] 22 (0,0)):=by
  have h:=fU ((w.alloc (.cells #[.int .i64 0] 3)).alloc (.cells #[.int .i64 s.size] 3)) (.cells #[.slice (some ⟨w.heap.size,0,none⟩) 1 1,.slice aB Br.length cB,.slice (some ⟨w.heap.size+1,0,none⟩) 1 1] 22);rw[<-hwc]at h;simpa using h
 clear hwc;obtain⟨L,hL⟩:∃L:Nat->List Int,L=fun i=>if i=0 then [0]else if i=1 then Br else [((s.size:Nat):Int)]:=⟨_,rfl⟩
 obtain⟨H,hH⟩:∃H:Nat->Value,H=fun i=>if i=0 then .slice (some ⟨w.heap.size,0,none⟩) 1 1 else if i=1 then .slice aB Br.length cB else .slice (some ⟨w.heap.size+1,0,none⟩) 1 1:=⟨_,rfl⟩
 have YZ:jV L 3=C9 s Br:=VD s Br L (by rw[hL];rfl) (by rw[hL];rfl) (by rw[hL];rfl);have h:=J4 L H (w.heap.size+1+1) 3 3 wc (by omega)
  (fun i hi=>by
    rcases(show i=0\/i=1\/i=2 by omega)with rfl | rfl | rfl
    ·rw[hH];exact fN k2 (i:=0) rfl
    ·rw[hH];exact fN k2 (i:=1) rfl
    ·rw[hH];exact fN k2 (i:=2) rfl)
  (fun i hi=>by
    rcases(show i=0\/i=1\/i=2 by omega)with rfl | rfl | rfl
    ·rw[hH,hL]
     exact⟨_,_,rfl,.inr ⟨_,rfl,fun j hj=>by
      obtain rfl:j=0:=Nat.lt_one_iff.1 hj
      exact fN k0 (i:=0) rfl⟩⟩
    ·rw[hH,hL];exact hB.fr hf
    ·rw[hH,hL]
     exact⟨_,_,rfl,.inr ⟨_,rfl,fun j hj=>by
      obtain rfl:j=0:=Nat.lt_one_iff.1 hj
      exact fN k1 (i:=0) rfl⟩⟩)
  (by rw[YZ,pN];omega) (by rw[YZ,pN];omega)
 rw[YZ,pN]at h;refine h.mono ?_;rintro e w' ⟨g,c,rfl,own,hf2⟩;refine⟨g,c,rfl,zy own,by have:=(fZ own).1;omega,fun j hj=>?_,hf.trans hf2⟩;rw[own.cellAt j (by omega),iJ (by rw[pN];exact hj)]
theorem sl0.low {w:World}{B B':Nat}{v:Value}{l:List Int}(h:sl0 w B v l)(hb:B'<=B):sl0 w B' v l:=by
 obtain⟨a,c,rfl,h0 | ⟨g,h1,h2,h3⟩⟩:=h
 ·exact⟨a,c,rfl,.inl h0⟩
 ·exact⟨a,c,rfl,.inr ⟨g,h1,a_ hb h2,h3⟩⟩
theorem LP.low {w:World}{B B' P:Nat}{Bd V X:List Int}{r:Int}{Ls:List Ln}{v0 v1 v2 vL:Value}{hs:List Value}(h:LP w B P Bd V X r Ls v0 v1 v2 vL hs)(hb:B'<=B):LP w B' P Bd V X r Ls v0 v1 v2 vL hs:=by
 obtain⟨U,hU,hn⟩:=h.n;refine⟨h.o,a_ hb h.le,h.b.low hb,h.v.low hb,h.x.low hb,gY h.l hb,U,hU,fun j l hj=>?_⟩;obtain⟨vO,vX,a1,a2,a3,a4,a5,a6,a7,a8⟩:=hn j l hj;exact⟨vO,vX,a1,a2,a3,a4,gY a5 hb,gY a6 hb,a7,a8⟩
theorem Lb (s:ByteArray)(b:Int)(vW vB:Value)(W Br:List Int)(n:Nat)(w:World)(hs:s.size<=400)(hb:b=0\/b=1\/b=2)(hF:Floor w)(hend:gJ.Ends s n)(hW:mA w vW W)(hB:mT w vB Br)(hBl:Br.length<=5000)(hck:tu s n (iY s n) b W Br=0)(Bd V X:List Int)(r:Int)(Ls:List Ln)
 (hl:∀Y,Fr [] w Y->Calls prog 163 #[.agg #[.string s,.int .i64 b,vW,vB]] Y fun e w'=>∃P v0 v1 v2 vL hs,e=.returned (.pointer (some ⟨P,0,none⟩))/\LP w' Y.heap.size P Bd V X r Ls v0 v1 v2 vL hs/\Fr [] Y w') :
 Calls prog 94 #[.agg #[.string s,.int .i64 b,vW,vB]] w fun e w'=>∃P v0 v1 v2 vL hs,e=.returned (.tuple #[.pointer (some ⟨P,0,none⟩),.nilIface])/\LP w' w.heap.size P Bd V X r Ls v0 v1 v2 vL hs/\Fr [] w w':=by
 obtain⟨tJ,_⟩:=r5 hend hs hb hck;have DC:n<=400:=by have:=gJ.lU s n;have:=hend.1;omega
 have hW0:=hW;obtain⟨aW,cW,rfl,_⟩:=hW;obtain⟨aB,cB,rfl,_⟩:=id hB;obtain⟨wb,hwb⟩:∃wb,wb=w.alloc (.cells #[.string s,.int .i64 b,.slice aW W.length cW,.slice aB Br.length cB] 35):=⟨_,rfl⟩;have nD:=hid (show Fr [] w wb by rw[hwb];exact(Fr.refl [] w).alloc _);have qy:=hid (show wb.heap[w.heap.size]?=some (.cells #[.string s,.int .i64 b,.slice aW W.length cW,.slice aB Br.length cB] 35 (0,0)) by rw[hwb];exact fU w _);have Se:=hid (G0 s b _ _ W Br n wb hs hb (hF.fr nD.out) hend (hW0.fr nD.out) (by omega) (hB.at.fr nD.out) hBl);have HCK:=hid hck;have Hx:=hid hl;generalize W.length=nW at *;generalize Br.length=nB at *;clear hW0 hend hck hB hF hb hl tJ;go_enter func94,ntmps94;go_wp2_with fail;rw[<-hwb];clear hwb;refine Se.out.mono ?_;rintro e w1 ⟨v,rfl,hv,hf1⟩;obtain⟨rfl,_⟩:v=.nilIface/\True:=by
  rcases hv with h | h
  ·exact⟨h.1,trivial⟩
  ·exact absurd HCK.out h.1
 have iy:=hid (nD.out.trans hf1);have kT:=hid (fO qy.out hf1 af);have k0:=fN kT.out (i:=0) (v:=.string s) rfl;have k1:=fN kT.out (i:=1) (v:=.int .i64 b) rfl;have k2:=fN kT.out (i:=2) (v:=.slice aW nW cW) rfl;have k3:=fN kT.out (i:=3) (v:=.slice aB nB cB) rfl;have Xc:=hid (Hx.out w1 iy.out);clear hv hf1 Se Hx;go_wp2_with fail;refine Xc.out.mono ?_;rintro e w2 ⟨P,v0,v1,v2,vL,hs2,rfl,hL,hf2⟩;have HL:=hid (hL.low iy.out.size);have f_:=hid (iy.out.trans hf2);clear hL hf2 Xc;go_wp2;go_ret2;exact⟨P,v0,v1,v2,vL,hs2,rfl,HL.out,f_.out⟩
theorem Sf (s:ByteArray)(b:Int)(vW vB:Value)(W Br:List Int)(n:Nat)(w:World)(hs:s.size<=400)(hb:b=0\/b=1\/b=2)(hF:Floor w)(hend:gJ.Ends s n)(hn:0<n)(hW:mA w vW W)(hB:mT w vB Br)(hBl:Br.length<=5000)(hck:tu s n (iY s n) b W Br=0) :
 Calls prog 163 #[.agg #[.string s,.int .i64 b,vW,vB]] w fun e w'=>∃P v0 v1 v2 vL hs,e=.returned (.pointer (some ⟨P,0,none⟩))/\LP w' w.heap.size P (bnd s n) (IF s n (gS (Kl s n) b) Br) (wl s W n) (1 - 2 * gS (Kl s n) b) (AR s n (gS (Kl s n) b) W Br (Br.length+1)) v0 v1 v2 vL hs/\Fr [] w w':=by
 obtain⟨tJ,hw,hbr⟩:=r5 hend hs hb hck;have DC:n<=400:=by have:=gJ.lU s n;have:=hend.1;omega
 have hE:=Cu hend hn Br hbr;have hcn:cn s n<=400:=by have:=jk s n;unfold cn;omega
 have hB4:Br.length+1<=400:=by
  have h1:=Sd hE (Br.length+1) (ak _);have h2:=hE.le (Br.length+1) (ak _);unfold jc at h1;omega
 have hW0:=hW;obtain⟨aW,cW,rfl,hW2⟩:=hW;obtain⟨gW,oW,rfl,Vr⟩:=hW2.resolve_left (by omega);obtain⟨aB,cB,rfl,_⟩:=id hB;rw[tJ]at Vr hW0 ⊢;obtain⟨bs,hbs⟩:∃bs,bs=gS (Kl s n) b:=⟨_,rfl⟩;have AN:=hid (show bs=0\/bs=1 by rw[hbs];exact mK hb);obtain⟨wb,hwb⟩:∃wb,wb=w.alloc (.cells #[.string s,.int .i64 b,.slice (some ⟨gW,oW,none⟩) n cW,.slice aB Br.length cB] 35):=⟨_,rfl⟩;have nD:=hid (show Fr [] w wb by rw[hwb];exact(Fr.refl [] w).alloc _);have qy:=hid (show wb.heap[w.heap.size]?=some (.cells #[.string s,.int .i64 b,.slice (some ⟨gW,oW,none⟩) n cW,.slice aB Br.length cB] 35 (0,0)) by rw[hwb];exact fU w _);have Ag:=hid (fun(X:World) (hf:Fr [] w X)=>hF.fr hf);have h10:4<w.heap.size:=eS _ _ (hF.t4 0 (by decide)).1;have Hx:=hid (fun X:World=>mE.ym s X (by omega));have Y0:=hid (fun(X:World) (hf:Fr [] w X)=>YK s b X (by omega) hb (hF.fr hf).t3 (hF.fr hf).t4 n hend hn (by omega) (acA s n));have YI:=hid hB;have HWR:=hid Vr;have HE:=hid hend;have Dx:=hid hE;have xF:=hid hbs;have HWl:=hid tJ
 have PZ:=hid (show ∀i,0<=nth W i/\nth W i<=1073741824 from fun i=>by
  by_cases hi:i<n
  ·exact Fw hw hi
  ·rw[rZ (by omega)];decide)
 have hgW:gW<w.heap.size:=eS _ _ (Vr 0 hn);rw[<-hbs]at Y0;obtain⟨nB,yK⟩:∃nB,nB=Br.length:=⟨_,rfl⟩;have sU:=hid yK;rw[<-yK]at hwb qy hBl hB4 YI ⊢;clear hW0 hW2 Vr hend hE hck hbr hw tJ hB hF hb yK;rw[<-hbs];clear hbs;go_enter func163,ntmps163;go_wp2_with fail;rw[<-hwb];have Cn:wb.heap.size=w.heap.size+1:=by rw[hwb];simp
 clear hwb;have iy:=nD;have kT:=qy;refine(Hx.out wb).mono ?_;rintro e w2 ⟨n',v,hn',rfl,own,hb2,_⟩;obtain rfl:=gJ.jT HE.out hn';obtain⟨gT,cT,rfl⟩:=fR hn own;have Xb:=fZ own;have f_:=hid (iy.out.trans (Fr.of_below (S:=[]) hb2));have iG:=hid (fO kT.out (Fr.of_below (S:=[]) hb2) af)
 have HT:=hid (show ND w2 gT n (Rl s n) (gJ.pos s)from fun i hi=>by
  obtain⟨q0,q1,q2⟩:=mE.zg (s:=s) (n:=n) (k:=i) hi
  refine⟨?_,?_,?_⟩
  ·rw[own.cellAt (i * 3) (by omega),q0,K0 s hi]
  ·rw[own.cellAt (i * 3+1) (by omega),q1]
  ·rw[own.cellAt (i * 3+2) (by omega),q2])
 have k0:=fN iG.out (i:=0) (v:=.string s) rfl;have k3:=fN iG.out (i:=3) (v:=.slice aB nB cB) rfl;have hl2:w.heap.size<w2.heap.size:=h_ iG.out;have J7:=hid (yH s Br aB cB w2 (by have h:=YI.out.fr f_.out;rw[sU.out]at h;exact h) (by rw[<-sU.out];omega));rw[<-sU.out]at J7;clear own hb2 hn' Hx;go_wp2_with fail;refine J7.out.mono ?_;rintro e w3 ⟨ge,ce,rfl,hce,hge,Y1,hf3⟩;have iO:=hid (f_.out.trans hf3);have k9:=hid (fO iG.out hf3 af);have HT3:=hid (HT.out.fr hf3 af);have X1:=hid Y1;have al2:ge<w3.heap.size:=eS _ _ (Y1 0 (by omega));have al3:=hf3.size;have Sg:=hid (Y0.out w3 iO.out);have k0:=fN k9.out (i:=0) (v:=.string s) rfl;have k1:=fN k9.out (i:=1) (v:=.int .i64 b) rfl;clear Y1 hf3 J7 k3 Y0;go_wp2_with fail;refine Sg.out.mono ?_;rintro e w4 ⟨gL,rfl,hrL,jl,hgL,hsL⟩;have gP:=hid (iO.out.trans jl);have jD:=hid (fO k9.out jl af);have HT4:=hid (HT3.out.fr jl af);have KO:=hid (X1.out.fr jl af);have Vw:gL<w4.heap.size:=eS _ _ (hrL 0 hn);have al5:=jl.size
 have Sh:=hid (Sb gT n cT (Rl s n) (gJ.pos s) gL n ge (nB+2) ce bs s.size (C9 s Br) (Kl s n) (levels (Rl s n) (Kl s n) bs) (Iw (jw s n) (bnd s n) Br) w4 hn (by omega) (kG s n) ((mX _ _ _ AN.out).trans (kG s n)) (by omega) (by rw[pN,sU.out]) (by omega) (NC HE.out Dx.out) HT4.out hrL hsL KO.out (by omega) (by omega)
  (fun x hx X hfX=>by
    have h:=mE.B4 (nth (Rl s n) x) X (La (Ag.out w4 gP.out).t3 hfX (fun hm=>by have:=aj.1 hm;omega)) (La (Ag.out w4 gP.out).t4 hfX (fun hm=>by have:=aj.1 hm;omega))
    refine h.mono ?_
    rintro e w' ⟨rfl,hb⟩
    exact⟨by rw[acB s hx,K0 s hx],Fr.of_below hb⟩)
  (fun x hx=>VC HE.out Dx.out (x+1)) (by have h:=L4 (Kl s n) (Iw (jw s n) (bnd s n) Br);rw[kG]at h;exact h))
 clear k0 k1 Sg hrL jl hsL;go_wp2_with fail;refine Sh.out.mono ?_;rintro e w5 ⟨rfl,hr5,jC⟩;have jP:=hid (show Fr [] w w5 from gP.out.behind jC (fun k hk=>by rw[aj.1 hk];have:=iO.out.size;omega));have qZ:=hid (fO jD.out jC (fun hm=>by have:=aj.1 hm;omega));have HT5:=hid (HT4.out.fr jC (fun hm=>by have:=aj.1 hm;omega));have m8:=hid (KO.out.fr jC (fun hm=>by have:=aj.1 hm;omega));have al6:=jC.size;obtain⟨LV,Tu⟩:∃LV,LV=vJ (Kl s n) (levels (Rl s n) (Kl s n) bs) bs (Iw (jw s n) (bnd s n) Br) 0:=⟨_,rfl⟩;rw[<-Tu]at hr5;have IE:=hid Tu;have Si:=hid (NA s n b (.slice aB nB cB) gW oW cW gT cT gL n W LV (Rl s n) w5 (by omega) HE.out hn (Ag.out w5 jP.out).t9 (HWR.out.fr jP.out af) PZ.out HT5.out hr5);have k0:=fN qZ.out (i:=0) (v:=.string s) rfl;have k1:=fN qZ.out (i:=1) (v:=.int .i64 b) rfl;have k2:=fN qZ.out (i:=2) (v:=.slice (some ⟨gW,oW,none⟩) n cW) rfl;have k3:=fN qZ.out (i:=3) (v:=.slice aB nB cB) rfl;clear hr5 jC Sh Tu;go_wp2_with fail;refine Si.out.mono ?_;rintro e w6 ⟨vs,rfl,hvs,jo⟩;obtain⟨gB,NG,gV,cV,gX,cX,rfl,hrB,hrV,hrX,hgB,hgV,hgX⟩:=hvs.out;have s_:=hid (jP.out.trans jo);have HE6:=hid (m8.out.fr jo af);have wV:=hid hrB;have Ut:=hid hrV;have KZ:=hid hrX;have al7:=jo.size;clear hvs hrB hrV hrX jo Si k0 k1 k2 k3;obtain⟨w7,hw7⟩:∃w7,w7=w6.alloc (.cells #[.slice (some ⟨gB,0,none⟩) (cn s n+1) NG,.slice (some ⟨gV,0,none⟩) (cn s n) cV,.slice (some ⟨gX,0,none⟩) (cn s n) cX] 163):=⟨_,rfl⟩;have xx:=hid (show Fr [] w6 w7 by rw[hw7];exact(Fr.refl [] w6).alloc _);have RZ:=hid (show w7.heap[w6.heap.size]?=some (.cells #[.slice (some ⟨gB,0,none⟩) (cn s n+1) NG,.slice (some ⟨gV,0,none⟩) (cn s n) cV,.slice (some ⟨gX,0,none⟩) (cn s n) cX] 163 (0,0)) by rw[hw7];exact fU w6 _)
 have Is:=hid (show ∀i,0<=nth LV i/\nth LV i<=1000 from fun i=>by
  by_cases hi:i<n
  ·rw[IE.out,yG (by rw[mX _ _ _ AN.out,kG];exact hi)]
   have:=zk (Rl s n) (Kl s n) bs AN.out (Iw (jw s n) (bnd s n) Br) i
   omega
  ·rw[IE.out,rZ (by rw[lH,mX _ _ _ AN.out,kG];omega)];decide)
 have r_:=hid (oN (s:=s) hn);have HBN:=hid (show cn s n+1=(bnd s n).length by have:=(jk s n).2.1;rw[j5 HE.out];unfold cn;omega)
 have Y3:=hid (fun(X:World) (hf:Fr [] w7 X)=>MF (bnd s n) (AU s LV n) (wl s W n) (C9 s Br) s.size gB NG (cn s n+1) gV (cn s n) cV gX cX ge ce (nB+1) X (lP HE.out) HBN.out (by omega) (by omega) (by omega) (by omega) (by omega)
  ((wV.out.fr xx.out af).fr hf af) ((Ut.out.fr xx.out af).fr hf af) ((KZ.out.fr xx.out af).fr hf af) ((HE6.out.fr xx.out af).fr hf af)
  (R_ Is.out) (fun k hk=>by
    have h:=Hw s W PZ.out n k (by rw[<-r_.out];exact hk)
    refine⟨h.1,Int.le_trans h.2 ?_⟩
    omega)
  (fun j hj=>by
    rw[yF HE.out Dx.out (by rw[<-sU.out];omega),yF HE.out Dx.out (by rw[<-sU.out];omega)]
    exact⟨bZ (Dx.out.mono j (j+1) (by omega) (by rw[<-sU.out];omega)),Dx.out.le (j+1) (by rw[<-sU.out];omega)⟩))
 have HLS:=hid (show zn (bnd s n) (AU s LV n) (wl s W n) (C9 s Br) (nB+1)=AR s n bs W Br (nB+1) by
  rw[sU.out]
  exact J3 HE.out hn Dx.out bs W LV (fun i hi=>by rw[IE.out,yG (by rw[mX _ _ _ AN.out,kG];exact hi)];rfl))
 have q0:=fN RZ.out (i:=0) (v:=.slice (some ⟨gB,0,none⟩) (cn s n+1) NG) rfl;have q1:=fN RZ.out (i:=1) (v:=.slice (some ⟨gV,0,none⟩) (cn s n) cV) rfl;have q2:=fN RZ.out (i:=2) (v:=.slice (some ⟨gX,0,none⟩) (cn s n) cX) rfl;have Xn:(0:Int)<=bs/\bs<=1:=by have:=AN.out;omega
 obtain⟨hb0,hb1⟩:=Xn;have hw1:IntKind.i64.wrap (2 * bs)=2 * bs:=by rw[eT];omega
 have hw2:IntKind.i64.wrap (1 - 2 * bs)=1 - 2 * bs:=by rw[eT];omega
 generalize hcn':cn s n=c at *;have HCN:=hid hcn';go_wp2_with fail;rw[<-hw7];have Av:=hid hw7;clear hw7 hcn';go_region_with (first | (go_at_call 208;refine(Y3.out _ ?_).mono ?_;exact iD _ _ _ rfl rfl rfl rfl;rintro e w8 ⟨vL,hs8,rfl,J8,hl8,nE⟩;obtain⟨aL,cL,rfl⟩:=gA J8;have Dc:Fr [] w7 w8:=⟨nE.os,nE.tape,nE.output,nE.size,nE.block⟩;have q8:=hid Dc;have W_:=hid J8;have HL8:=hid hl8;have r0:=Dc.cell q0 af;have r1:=Dc.cell q1 af;have r2:=Dc.cell q2 af;clear nE Dc J8 hl8))
 all_goals (
  have DM:=hid (show Fr [] w7 (w8.alloc (.cells #[.slice (some ⟨gB,0,none⟩) (c+1) NG,.slice (some ⟨gV,0,none⟩) c cV,.slice (some ⟨gX,0,none⟩) c cX,.slice aL (nB+1) cL,.int .i64 (1 - 2 * bs)] 166))from q8.out.alloc _)
  have DY:=hid (s_.out.trans (xx.out.trans DM.out))
  have Oq:=hid (show LP (w8.alloc (.cells #[.slice (some ⟨gB,0,none⟩) (c+1) NG,.slice (some ⟨gV,0,none⟩) c cV,.slice (some ⟨gX,0,none⟩) c cX,.slice aL (nB+1) cL,.int .i64 (1 - 2 * bs)] 166)) w.heap.size w8.heap.size (bnd s n) (IF s n bs Br) (wl s W n) (1 - 2 * bs) (AR s n bs W Br (nB+1)) _ _ _ _ hs8 from by
   have z1:=jP.out.size
   have z2:=xx.out.size
   have z3:=q8.out.size
   have hz:w.heap.size<=w7.heap.size:=by omega
   refine⟨fU w8 _,by omega,FP HBN.out.symm (by omega) (((wV.out.fr xx.out af).fr DM.out af)),FP (by rw[IF,vw,<-r_.out]) (by omega) (by rw[IF,<-IE.out];exact(Ut.out.fr xx.out af).fr DM.out af),FP (by rw[t_,<-r_.out]) (by omega) ((KZ.out.fr xx.out af).fr DM.out af),?_,w8.heap.size,by simp,?_⟩
   ·rw[pM];exact gY (W_.out.alloc _) hz
   ·have h:=HL8.out
    rw[HLS.out]at h
    intro j l hj
    obtain⟨vO,vX,a1,a2,a3,a4,a5,a6,a7,a8⟩:=h j l hj
    exact⟨vO,vX,a1,a2,a3,a4,gY (a5.alloc _) hz,gY (a6.alloc _) hz,a7,a8⟩)
  go_wp2
  go_ret
  exact⟨_,_,_,_,_,_,rfl,Oq.out,DY.out⟩)
theorem Sj (s:ByteArray)(b:Int)(vW vB:Value)(W Br:List Int)(n:Nat)(w:World)(hs:s.size<=400)(hb:b=0\/b=1\/b=2)(hF:Floor w)(hend:gJ.Ends s n)(hn:0<n)(hW:mA w vW W)(hB:mT w vB Br)(hBl:Br.length<=5000)(hck:tu s n (iY s n) b W Br=0) :
 Calls prog 94 #[.agg #[.string s,.int .i64 b,vW,vB]] w fun e w'=>∃P v0 v1 v2 vL hs,e=.returned (.tuple #[.pointer (some ⟨P,0,none⟩),.nilIface])/\LP w' w.heap.size P (bnd s n) (IF s n (gS (Kl s n) b) Br) (wl s W n) (1 - 2 * gS (Kl s n) b) (AR s n (gS (Kl s n) b) W Br (Br.length+1)) v0 v1 v2 vL hs/\Fr [] w w' :=
 Lb s b vW vB W Br n w hs hb hF hend hW hB hBl hck _ _ _ _ _ (fun Y hf=>Sf s b vW vB W Br n Y hs hb (hF.fr hf) hend hn (hW.fr hf) (hB.fr hf) hBl hck)
theorem Sk (vs:Array Value)(s:ByteArray)(b x:Int)(aW aB:Option Addr)(nW cW nB cB:Nat)(w:World)(hvs:vs=#[.string s,.int .i64 b,.slice aW nW cW,.slice aB nB cB])
 (hc:∀w',Fr [] w w'->Calls prog 162 #[.agg vs] w' fun e w2=>∃v,e=.returned v/\yz w2 v x/\Fr [] w' w2) :
 Calls prog 94 #[.agg vs] w fun e w'=>∃P,e=.returned (.tuple #[.pointer none,.iface 126 (.pointer (some ⟨P,0,none⟩))])/\w'.cell? ⟨P,0,none⟩=some (.int .i64 x)/\Fr [] w w':=by
 have Se:=hid (hc _ ((Fr.refl [] w).alloc (.cells vs 35)));clear hc;subst hvs;go_enter func94,ntmps94;go_wp2_with fail;refine Se.out.mono ?_;rintro e w1 ⟨v,rfl,⟨P,rfl,hP⟩,hf1⟩;have HP:=hid hP;have iy:=hid (((Fr.refl [] w).alloc _).trans hf1);clear hP hf1 Se;go_wp2;go_ret2;exact⟨P,rfl,HP.out,iy.out⟩
theorem Sl (vs:Array Value)(s:ByteArray)(b x:Int)(aW aB:Option Addr)(nW cW nB cB:Nat)(w:World)(hF:Floor w)(hvs:vs=#[.string s,.int .i64 b,.slice aW nW cW,.slice aB nB cB])
 (hc:∀w',Fr [] w w'->Calls prog 162 #[.agg vs] w' fun e w2=>∃v,e=.returned v/\yz w2 v x/\Fr [] w' w2) :
 Calls prog 52 #[.agg vs] w fun e w'=>e=.returned (.tuple #[.pointer none,.int .i64 x])/\Fr [] w w':=by
 have nD:=hid (show Fr [] w (w.alloc (.cells vs 35))from(Fr.refl [] w).alloc _);have H94:=hid (Sk vs s b x aW aB nW cW nB cB _ hvs (fun w' hf=>hc w' (nD.out.trans hf)));have Ag:=hid (fun(X:World) (hf:Fr [] w X)=>(hF.fr hf).e0);clear hc hF;subst hvs;go_enter func52,ntmps52;go_wp2_with fail;refine H94.out.mono ?_;rintro e w1 ⟨P,rfl,hP,hf1⟩;have iy:=hid (nD.out.trans hf1);have H37:=hid (Jy P x w1 (Ag.out w1 iy.out) hP);clear hP hf1 H94;go_wp2_with fail;refine H37.out.mono ?_;rintro e w2 ⟨rfl,hf2⟩;have f_:=hid (iy.out.trans hf2);clear hf2 H37;go_wp2;go_ret2;exact⟨rfl,f_.out⟩
theorem NH (vs:Array Value)(s:ByteArray)(b:Int)(aW aB:Option Addr)(nW cW nB cB:Nat)(w:World)(hvs:vs=#[.string s,.int .i64 b,.slice aW nW cW,.slice aB nB cB])(Bd V X:List Int)(r:Int)(Ls:List Ln)
 (hc:∀w',Fr [] w w'->Calls prog 94 #[.agg vs] w' fun e w2=>∃P v0 v1 v2 vL hs,e=.returned (.tuple #[.pointer (some ⟨P,0,none⟩),.nilIface])/\LP w2 w'.heap.size P Bd V X r Ls v0 v1 v2 vL hs/\Fr [] w' w2) :
 Calls prog 52 #[.agg vs] w fun e w'=>∃Q P v0 v1 v2 vL hs,e=.returned (.tuple #[.pointer (some ⟨Q,0,none⟩),.int .i64 0])/\w'.heap[Q]?=some (.cells #[.pointer (some ⟨P,0,none⟩)] 111 (0,0))/\w.heap.size<=Q/\LP w' (w.heap.size+1) P Bd V X r Ls v0 v1 v2 vL hs/\Fr [] w w':=by
 have nD:=hid (show Fr [] w (w.alloc (.cells vs 35))from(Fr.refl [] w).alloc _);have H94:=hid (hc _ nD.out);clear hc;subst hvs;go_enter func52,ntmps52;go_wp2_with fail;refine H94.out.mono ?_;rintro e w1 ⟨P,v0,v1,v2,vL,hs,rfl,hL,hf1⟩;rw[fI]at hL;have HL:=hid hL;have iy:=hid (nD.out.trans hf1);clear hL hf1 H94;go_wp2;go_ret2;exact⟨_,P,v0,v1,v2,vL,hs,rfl,fU w1 _,iy.out.size,HL.out.fr ((Fr.refl [] w1).alloc _) (fun k hk=>absurd hk af),iy.out.alloc _⟩
open Go.Shelf
theorem VI (v0 v1 v2:Value)(w:World) :
 Calls prog 229 #[.agg #[v0,v1,v2],.int .i64 0,.int .i64 0] w fun e w'=>∃go,e=.returned (.slice (some ⟨go,0,none⟩) 0 0)/\w'.ownsRow w.heap.size 3 1 (.slice (some ⟨go,0,none⟩) 0 0) 0 (gz [])/\Fr [] w w':=by
 obtain⟨i3,hi3,rQ,rS,hz32⟩:=e_ info3;have M5:∀X:World,(Instr.makeSlice 22 (.int .i64 0) (.int .i64 0)).run prog X=.ok (.slice (some ⟨X.heap.size,0,none⟩) 0 0) (X.alloc (.cells #[] 3)):=fun X=>by
  have:=run_make (P:=prog) X 22 3 i3 _ underlying22 hi3 rQ .i64 .i64 0 0 (by omega) (dU _) (by rw[hz32];omega) (by omega);rw[rS]at this;exact this.trans (by simp[madeCells,Array.range])
 obtain⟨wx,hwx⟩:∃wx,wx=(w.alloc (.cells #[v0,v1,v2] 163)).alloc (.cells #[] 3):=⟨_,rfl⟩;have HF:=hid (show Fr [] w wx by rw[hwx];exact((Fr.refl [] w).alloc _).alloc _)
 have HO:=hid (show wx.heap[w.heap.size+1]?=some (.cells #[] 3 (0,0)) by
  have h:=fU (w.alloc (.cells #[v0,v1,v2] 163)) (.cells #[] 3)
  rw[<-hwx]at h;simpa using h)
 go_enter func229,ntmps229;go_wp2_with fail;rw[<-hwx];clear hwx;go_loopw [8,9,19] (fun a b c wr=>a=.int .i64 0/\b=.int .i64 9223372036854775807/\c=.int .i64 0/\Hid (wr.heap[w.heap.size+1]?=some (.cells #[] 3 (0,0)))/\Hid (Fr [] w wr)) (fun _ _ _ _=>0)
 case atStart=>exact⟨rfl,rfl,rfl,HO,HF⟩
 case round =>
  obtain⟨rfl,rfl,rfl,kT,iy⟩:=hrel;go_wp2_with fail;go_loopw [12] (fun a wr=>a=.int .i64 0/\Hid (wr.heap[w.heap.size+1]?=some (.cells #[] 3 (0,0)))/\Hid (Fr [] w wr)) (fun _ _=>0)
  case atStart=>exact⟨rfl,kT,iy⟩
  case round =>
   obtain⟨rfl,iG,f_⟩:=hrel;go_wp2_with fail;go_ret;exact⟨w.heap.size+1,rfl,⟨rfl,.inr ⟨_,0,#[],rfl,Nat.le_succ _,iG.out,ak _,aH _,rfl,rfl⟩⟩,f_.out⟩
theorem Sm (v0 v1 v2:Value)(g c:Nat)(w:World) :
 Calls prog 230 #[.agg #[v0,v1,v2],.slice (some ⟨g,0,none⟩) 0 c] w fun e w'=>∃gx cx,e=.returned (.slice (some ⟨gx,0,none⟩) 1 cx)/\w'.ownsRow w.heap.size 2 1 (.slice (some ⟨gx,0,none⟩) 1 cx) 1 (gu [0])/\Fr [] w w':=by
 obtain⟨wx,hwx⟩:∃wx,wx=(w.alloc (.cells #[v0,v1,v2] 163)).alloc (.cells #[.int .i64 0] 2):=⟨_,rfl⟩;have HF:=hid (show Fr [] w wx by rw[hwx];exact((Fr.refl [] w).alloc _).alloc _)
 have HO:=hid (show wx.heap[w.heap.size+1]?=some (.cells #[.int .i64 0] 2 (0,0)) by
  have h:=fU (w.alloc (.cells #[v0,v1,v2] 163)) (.cells #[.int .i64 0] 2)
  rw[<-hwx]at h;simpa using h)
 go_enter func230,ntmps230;go_wp2_with fail;rw[<-hwx];clear hwx;go_loopw [5,11] (fun a b wr=>a=.slice (some ⟨w.heap.size+1,0,none⟩) 1 1/\b=.int .i64 0/\Hid (wr.heap[w.heap.size+1]?=some (.cells #[.int .i64 0] 2 (0,0)))/\Hid (Fr [] w wr)) (fun _ _ _=>0)
 case atStart=>exact⟨rfl,rfl,HO,HF⟩
 case round =>
  obtain⟨rfl,rfl,kT,iy⟩:=hrel;go_wp2_with fail;go_ret;exact⟨w.heap.size+1,1,rfl,⟨rfl,.inr ⟨_,1,#[.int .i64 0],rfl,Nat.le_succ _,kT.out,ak _,by unfold maxLen;omega,rfl,rfl⟩⟩,iy.out⟩
end Go.Proofs.YtnakejhohdbfdaaGreatDoor
namespace Go.Proofs.YtnakejhohdbfdaaGreatDoor
open Go.RowKit jN Lay uS Go.Proofs.Tryz
def NI:Ln:=⟨0,0,[],[0]⟩
theorem at_nil (gB cB:Nat)(v1 v2:Value)(w:World)(hB:rowAt w gB 1 [0]) :
 Calls prog 102 #[.agg #[.slice (some ⟨gB,0,none⟩) 1 cB,v1,v2],.int .i64 0] w fun e w'=>e=.returned (.int .i64 0)/\Fr [] w w' :=
 (Cx [0] 0 ⟨by simp,rfl,rfl⟩ 0 gB cB 1 v1 v2 w rfl (by omega) hB).mono (fun _ _ h=>h)
theorem NJ (gB cB ge ce:Nat)(w:World)(hce:2<=ce)(hB:rowAt w gB 1 [0])(hE:rowAt w ge 2 [0,0]) :
 Calls prog 208 #[.agg #[.slice (some ⟨gB,0,none⟩) 1 cB,.slice none 0 0,.slice none 0 0],.slice (some ⟨ge,0,none⟩) 2 ce] w fun e w'=>∃vL hs,e=.returned vL/\w'.ownsRow w.heap.size 51 4 vL 1 hs/\lX w' w.heap.size w'.heap.size hs [NI]/\Fr [] w w':=by
 obtain⟨i51,Ji,hx0,hx1,hx2⟩:=e_ Fm;obtain⟨vS,hvS⟩:∃vS:Array Value,vS=#[.slice (some ⟨gB,0,none⟩) 1 cB,.slice none 0 0,.slice none 0 0]:=⟨_,rfl⟩;obtain⟨wb,Fz⟩:∃wb,wb=w.alloc (.cells #[.slice (some ⟨gB,0,none⟩) 1 cB,.slice none 0 0,.slice none 0 0] 163):=⟨_,rfl⟩;have nD:=hid (show Fr [] w wb by rw[Fz];exact(Fr.refl [] w).alloc _);have qy:=hid (show wb.heap[w.heap.size]?=some (.cells #[.slice (some ⟨gB,0,none⟩) 1 cB,.slice none 0 0,.slice none 0 0] 163 (0,0)) by rw[Fz];exact fU w _);have Cn:wb.heap.size=w.heap.size+1:=by rw[Fz];simp
 have HE:=hid hE;have HA:=hid (fun(X:World) (hf:Fr [] w X)=>at_nil gB cB (.slice none 0 0) (.slice none 0 0) X (hB.fr hf af));have ZE:=hid (fun(X:World)=>VI (.slice (some ⟨gB,0,none⟩) 1 cB) (.slice none 0 0) (.slice none 0 0) X);have Us:=hid (fun(go:Nat) (X:World)=>Sm (.slice (some ⟨gB,0,none⟩) 1 cB) (.slice none 0 0) (.slice none 0 0) go 0 X);clear hvS hE hB vS;have aeV:¬ce=1:=by omega
 have aeW:1<ce:=by omega
 go_enter func208,ntmps208;go_wp2_with fail;rw[<-Fz];go_loopw [5,13] (fun vL kk wr=>∃(i:Nat) (hs:List Value),kk=.int .i64 i/\i<=1/\Hid (wr.ownsRow (w.heap.size+1) 51 4 vL i hs)/\Hid (lX wr (w.heap.size+1) wr.heap.size hs ([NI].take i))/\Hid (Fr [] wb wr)) (fun _ kk _=>1 - (intOf kk).toNat)
 case atStart=>exact⟨0,[],rfl,aH _,hid ⟨rfl,.inl ⟨rfl,rfl⟩⟩,hid (fun j l hj=>by simp at hj),hid (Fr.refl _ _)⟩
 case round =>
  obtain⟨i,hs,rfl,hiK,HL,HI,HF⟩:=hrel;have Ad:=hid (nD.out.trans HF.out);by_cases hil:i<1
  ·obtain rfl:i=0:=by omega
   have e0:wr.cell? ⟨ge,0,none⟩=some (.int .i64 0):=HE.out.fr Ad.out af 0 (by omega);have e1:wr.cell? ⟨ge,1,none⟩=some (.int .i64 0):=HE.out.fr Ad.out af 1 (by omega);obtain⟨aL,cL,qw⟩:=gA HL.out;subst qw;have AE:=hid (fO qy.out HF.out af);have s0:wr.cell? ⟨w.heap.size,0,none⟩=some (.slice (some ⟨gB,0,none⟩) 1 cB):=fN AE.out (i:=0) rfl;have s1:wr.cell? ⟨w.heap.size,1,none⟩=some (.slice none 0 0):=fN AE.out (i:=1) rfl;have s2:wr.cell? ⟨w.heap.size,2,none⟩=some (.slice none 0 0):=fN AE.out (i:=2) rfl;have XL:=hid (And.intro s0 (And.intro s1 s2));have hbl:=eS _ _ s0;dsimp only at hbl;go_wp2_with fail;go_region_held (fun wz=>wz.cell? ⟨w.heap.size,0,none⟩=some (.slice (some ⟨gB,0,none⟩) 1 cB)/\wz.cell? ⟨w.heap.size,1,none⟩=some (.slice none 0 0)/\wz.cell? ⟨w.heap.size,2,none⟩=some (.slice none 0 0))
    (first | exact uj | exact XL.out | go_keep)
    (first
      | (go_at_call 102;refine(HA.out _ ?fa).mono ?_;(case fa=>first | exact iy.out.trans (iD _ _ _ rfl rfl rfl rfl) | exact Ad.out.trans (iD _ _ _ rfl rfl rfl rfl));rintro e w1 ⟨rfl,hf1⟩;have iy:=hid (show Fr [] w w1 from by first | exact iy.out.trans ⟨hf1.os,hf1.tape,hf1.output,hf1.size,hf1.block⟩ | exact Ad.out.trans ⟨hf1.os,hf1.tape,hf1.output,hf1.size,hf1.block⟩);have Fu:=hid (show Fr [] wr w1 from by first | exact Fu.out.trans ⟨hf1.os,hf1.tape,hf1.output,hf1.size,hf1.block⟩ | exact⟨hf1.os,hf1.tape,hf1.output,hf1.size,hf1.block⟩);have uj:=And.intro (Fu.out.cell s0 af) (And.intro (Fu.out.cell s1 af) (Fu.out.cell s2 af));clear hf1)
      | (go_at_call 229;refine(ZE.out _).mono ?_;rintro e w2 ⟨go,rfl,mM,hf2⟩;have iG:=hid (gY (base':=w.heap.size+1) mM (a_ hbl Fu.out.size));have HG2:=hid (show Fr [] wr w2 from Fu.out.trans ⟨hf2.os,hf2.tape,hf2.output,hf2.size,hf2.block⟩);have hsz2:=Fu.out.size;have uj:=And.intro (HG2.out.cell s0 af) (And.intro (HG2.out.cell s1 af) (HG2.out.cell s2 af));clear mM hf2))
   all_goals (
    obtain⟨t0,t1,t2⟩:=uj
    have XM:=HG2.out.size
    go_wp2_with (first
     | (go_at_call 230;refine(Us.out _ _).mono ?_;rintro e w3 ⟨gx,cx,rfl,gM,hf3⟩;have oD:=hid (gY (base':=w.heap.size+1) gM (a_ hbl XM));have tA:=hid (show Fr [] w2 w3 from⟨hf3.os,hf3.tape,hf3.output,hf3.size,hf3.block⟩);have aeY:=tA.out.size;have Iz:=hid (fS HL.out (HG2.out.trans tA.out));clear gM hf3)
     | (at_builtin;refine eV _ rfl _ _ 164 rfl (w.heap.size+1) 51 i51 _ 4 64 underlying164 Ji hx0 hx1 hx2 rfl (by decide) _ 0 hs rfl ?own _ 1 1 [.int .i64 0,.int .i64 0,.slice (some ⟨go,0,none⟩) 0 0,.slice (some ⟨gx,0,none⟩) 1 cx] rfl rfl (iC _ _ _ _ (by simp)) (Ck _ _ _ _ _ _ _ _) (by unfold maxLen;omega) (by omega) ?nY ?_))
    case own=>exact Iz.out.alloc _
    case nY=>simp;omega
    intro v' w' hown hgrow hnil
    obtain⟨g',c',hv'⟩:=fR (by omega) hown
    subst hv'
    have HHO:=hid hown
    have HHG:=hid hgrow
    have iO:=hid (show Fr [] w2 (w3.alloc (.cells #[.int .i64 0,.int .i64 0,.slice (some ⟨go,0,none⟩) 0 0,.slice (some ⟨gx,0,none⟩) 1 cx] 51))from tA.out.alloc _)
    have Iu:=hid (fun(e:Nat) (v:Value) (m:Nat) (xs:List Value) (he:e=3\/e=2) (hh:(w3.alloc (.cells #[.int .i64 0,.int .i64 0,.slice (some ⟨go,0,none⟩) 0 0,.slice (some ⟨gx,0,none⟩) 1 cx] 51)).ownsRow (w.heap.size+1) e 1 v m xs)=>show w'.ownsRow (w.heap.size+1) e 1 v m xs from iV hh HHG.out (fun g hg=>by
     obtain⟨cs,t',f',h5,h6⟩:=ko (Iz.out.alloc (.cells #[.int .i64 0,.int .i64 0,.slice (some ⟨go,0,none⟩) 0 0,.slice (some ⟨gx,0,none⟩) 1 cx] 51)) hg
     exact⟨cs,t',f',h5,by rw[h6];rcases he with rfl | rfl <;> decide⟩))
    have ae0:w3.heap.size<=w'.heap.size:=by have h5:=hgrow.size;simp at h5;omega
    have HI4:=hid (show lX w' (w.heap.size+1) w'.heap.size (hs++[.int .i64 0,.int .i64 0,.slice (some ⟨go,0,none⟩) 0 0,.slice (some ⟨gx,0,none⟩) 1 cx]) [NI] by
     refine lX.snoc (Ls:=[]) (l:=NI) (n:=0) HI.out rfl HL.out.1 (by have:=HG2.out.size;have:=tA.out.size;omega) (fun e v m xs he _ hh=>Iu.out e v m xs he (fS hh (HG2.out.trans iO.out))) ?_ ?_ ?_ ?_
     ·exact Iu.out 3 _ _ _ (.inl rfl) (fS iG.out iO.out)
     ·exact Iu.out 2 _ _ _ (.inr rfl) (oD.out.alloc _)
     ·intro g hg;cases hg;have:=(fZ iG.out).2;show go<_;omega
     ·intro g hg;cases hg;have:=(fZ oD.out).2;show gx<_;omega)
    have gP:=hid (show Fr [] wb w' from(HF.out.trans (HG2.out.trans iO.out)).grown HHG.out (fun g hg=>by
     have:=(Iz.out.lt g hg).1;omega))
    clear hown hgrow hnil
    go_wp2
    go_roundw
    case rel=>exact⟨1,_,rfl,by omega,HHO,HI4,gP⟩
    case measure=>simp[intOf])
  ·obtain rfl:i=1:=by omega
   have HIL:=hid (show lX wr w.heap.size wr.heap.size hs [NI]from fun j l hj=>by
    obtain⟨vO,vX,a1,a2,a3,a4,a5,a6,a7⟩:=HI.out j l hj
    exact⟨vO,vX,a1,a2,a3,a4,gY a5 (by omega),gY a6 (by omega),a7⟩)
   go_wp2;go_ret;exact⟨_,hs,rfl,gY HL.out (by omega),HIL.out,Ad.out⟩
end Go.Proofs.YtnakejhohdbfdaaGreatDoor

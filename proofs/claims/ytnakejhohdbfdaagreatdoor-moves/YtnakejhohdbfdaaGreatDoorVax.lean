import Derived.Test.YtnakejhohdbfdaaGreatDoorVaq
import Derived.Test.YtnakejhohdbfdaaGreatDoorVar
import Derived.Test.YtnakejhohdbfdaaGreatDoorVau
import Derived.Test.YtnakejhohdbfdaaGreatDoorVav
import Derived.Test.YtnakejhohdbfdaaGreatDoorVaw
set_option maxHeartbeats 8000000
set_option maxRecDepth 10000
set_option linter.unusedSimpArgs false
namespace Go.Proofs.YtnakejhohdbfdaaGreatDoor
open Go.RowKit jN Go.Proofs.Tryz
theorem CL (I:List Nat)(k j:Nat)(v:Int)(C:List Int)(h:k<=j):iE I k v (j+1 - k) C=put I (iE I k v (j - k) C) j v:=by
 rw[show j+1 - k=(j - k)+1 by omega,iE,show k+(j - k)=j by omega]
theorem isNe_eq (c:Int):isNe c=decide (side c<0):=rfl
theorem M0 (q:PH)(C L:List Int)(G:List Bool)(bI cI:Nat)(s:Sq)(w:World)(hs:PS w q C L G)(hI:IS w q bI s.I)(h0:0<s.I.length)(hinj:inj s.I) :
 Calls prog 49 #[.pointer (some ⟨q.p,0,none⟩),Ee bI cI s] w fun e w'=>e=.returned (.tuple #[])/\PS w' q (neutral s C) L G/\Fr [q.bC] w w':=by
 have lp:=hs.lt;have sm:=hI.sm;have nC:=hs.Im.1;have nI:=hI.ne.1;have HS:=hid hs;have HI:=hid hI;obtain⟨R,hR⟩:∃R,R=neutral s C:=⟨_,rfl⟩;have HR:=hid hR;rw[<-hR];obtain⟨m,hm⟩:∃m,m=s.I.length:=⟨_,rfl⟩;have HM:=hid hm;have HV:=hid (show Ee bI cI s=.agg #[.slice (some ⟨bI,0,none⟩) m cI,.int .i64 s.own,.int .i64 s.iq,.int .i64 s.jR] by rw[hm]);rw[HV.out];rw[<-hm]at sm;have hm0:0<m:=by rw[hm];exact h0
 have hn0:0<q.n:=by have:=hI.lt 0 h0;omega
 have G8:=hid hinj;clear hm hR hs hI h0 hinj
 have HX0:=hid (show kB (w.alloc (.cells #[.slice (some ⟨bI,0,none⟩) m cI,.int .i64 s.own,.int .i64 s.iq,.int .i64 s.jR] 101)) w.heap.size bI m cI s.own s.iq s.jR from fun j v hv=>by
  rw[eZ _ _ _ _ rfl];exact hv)
 have A9:=hid (show w.heap.size ∉ [q.bC]from fun h=>by
  have:=HS.out.Td hn0;have:=aj.1 h;omega)
 go_enter func49,ntmps49;go_wp2;go_loopw [5] (fun a wr=>∃(k:Nat) (C':List Int),a=.int .i64 k/\k<=m/\Hid (qG s.I isNe (kH s) C k C')/\Hid (PS wr q C' L G)/\Hid (Fr [q.bC] w wr)/\Hid (kB wr w.heap.size bI m cI s.own s.iq s.jR)) (fun a _=>m - (intOf a).toNat)
 case atStart=>exact⟨0,C,rfl,aH _,hid (F0 _ _ _ _),hid (HS.out.alloc _),hid ((Fr.refl _ w).alloc _),HX0⟩
 case round =>
  obtain⟨k,C',rfl,hk,WM,HP,HF,HX⟩:=hrel;have x0:=HX.out 0 _ rfl;have d2:=HP.out.c2;by_cases hlt:k<m
  ·obtain⟨hi,e1,e2,e3,e4⟩:=pq HP.out HI.out HF.out (show k<s.I.length by rw[<-HM.out];exact hlt)
   have WJ:=hid (fun h=>Kn (show k<s.I.length by rw[<-HM.out];exact hlt) (show isNe (cl s.I C' k)=false from h) WM.out);dsimp only[cl]at WJ;have JE:=hid (mF (nth C' (fX s.I k)));by_cases h5:side (nth C' (fX s.I k))<0
   ·have Ya:=hid h5
    generalize hix:fX s.I k=i at *;have QU:=hid hix;clear hix;generalize hy:nth C' i=y at *;have HY:=hid hy;clear hy;generalize hsy:side y=sy at *;have HSY:=hid hsy;clear hsy;have h5':¬(0:Int)<=sy:=by omega
    go_wp2;go_quiet (first | (go_at_call 92;exact Calls.quiet_of_same (JE.out _)));go_wp2;go_loopw [6,7] (fun b a wr=>∃(e:Nat),a=.int .i64 e/\k<=e/\e<=m/\Hid (∀j,k<=j->j<e->isNe (cl s.I C' j)=true)/\Hid (PS wr q C' L G)/\Hid (Fr [q.bC] w wr)/\Hid (kB wr w.heap.size bI m cI s.own s.iq s.jR)) (fun _ a _=>m - (intOf a).toNat)
    case atStart=>exact⟨k,rfl,ak _,hk,hid (fun j h1 h2=>by omega),hid (HP.out.iS (iD _ _ _ rfl rfl rfl rfl)),hid (HF.out.trans (iD _ _ _ rfl rfl rfl rfl)),hid (HX.out.fr (S:=[]) (iD _ _ _ rfl rfl rfl rfl) af)⟩
    case round =>
     obtain⟨e,rfl,hke,hem,HE,mO,f_,qV⟩:=hrel;have x0':=qV.out 0 _ rfl;have x1':=qV.out 1 _ rfl;have x2':=qV.out 2 _ rfl;have x3':=qV.out 3 _ rfl;have d2':=mO.out.c2;have WA:=hid (yT q C' L G bI cI s ((k:Int) - 1));rw[HV.out,Gi s C' k (by rw[<-HM.out];exact hk)]at WA;have Yd:=hid (yT q C' L G bI cI s (e:Int));rw[HV.out,Ef]at Yd;have HNA:=hid (show kH s k e C'=iE s.I k (if side (ah s C' k)=side (tE s C' e)then side (ah s C' k)else s.own) (e - k) C' from rfl)
     rcases bP e m with h1 | h1
     ·obtain⟨hj,f1,f2,f3,f4⟩:=pq mO.out HI.out f_.out (show e<s.I.length by rw[<-HM.out];exact h1)
      have WN:=hid (mF (nth C' (fX s.I e)));by_cases h2:side (nth C' (fX s.I e))<0
      ·have HE2:=hid (show ∀j,k<=j->j<e+1->isNe (cl s.I C' j)=true from fun j a b=>by
        rcases aA (aM b)with h | h
        ·exact HE.out j a h
        ·rw[h,cl,isNe_eq];exact aZ h2)
       generalize fX s.I e=ie at *;generalize nth C' ie=ye at *;generalize side ye=se at *;have h2':¬(0:Int)<=se:=by omega
       clear f3 f4 WA Yd HNA x1' x2' x3';go_wp2;go_quiet (first | (go_at_call 92;exact Calls.quiet_of_same (WN.out _)));go_wp2;go_roundw
       case rel=>exact⟨e+1,by go_num,by omega,by omega,HE2,hid (mO.out.iS (iD _ _ _ rfl rfl rfl rfl)),hid (f_.out.trans (iD _ _ _ rfl rfl rfl rfl)),hid (qV.out.fr (S:=[]) (iD _ _ _ rfl rfl rfl rfl) af)⟩
       case measure=>simp[intOf];omega
      ·have hx2:k<e:=by
        rcases aA hke with h3 | h3
        ·exact h3
        ·exfalso;exact h2 (by rw[<-h3,QU.out,HY.out,HSY.out];exact Ya.out)
       have To:=hid (E2 (fun a k C h1 h2=>F1 G8.out a k C h1 h2) hx2 (show e<=s.I.length by rw[<-HM.out];exact hem) HE.out (.inr (by rw[cl,isNe_eq];exact aK h2)) WM.out);generalize fX s.I e=ie at *;generalize nth C' ie=ye at *;generalize side ye=se at *;have h2':(0:Int)<=se:=by omega
       clear f3 f4;go_wp2_with fail;go_quiet (first | (go_at_call 92;exact Calls.quiet_of_same (WN.out _)));go_wp2_with fail;refine(WA.out _ ?_ ?_).mono ?_
       ·exact mO.out.iS (iD _ _ _ rfl rfl rfl rfl)
       ·exact HI.out.fr (f_.out.trans (iD _ _ _ rfl rfl rfl rfl)) (fun e=>nI (aj.1 e))
       rintro e' w1 ⟨rfl,hf1⟩;have iO:=hid (f_.out.trans (w'':=w1) ⟨hf1.os,hf1.tape,hf1.output,hf1.size,fun k h1 _=>hf1.block k h1 af⟩);have oO:=hid (mO.out.iS (w':=w1) ⟨hf1.os,hf1.tape,hf1.output,hf1.size,hf1.block⟩);have oD:=hid (qV.out.fr (S:=[]) (w':=w1) ⟨hf1.os,hf1.tape,hf1.output,hf1.size,hf1.block⟩ af);have y0:=oD.out 0 _ rfl;have y1:=oD.out 1 _ rfl;have y2:=oD.out 2 _ rfl;have y3:=oD.out 3 _ rfl;clear hf1;go_wp2_with fail;refine(mF _ _).mono ?_;rintro e' w1' ⟨rfl,rfl⟩;go_wp2_with fail;refine(Yd.out _ oO.out (HI.out.fr iO.out (fun e=>nI (aj.1 e)))).mono ?_;rintro e' w2 ⟨rfl,hf2⟩;have gP:=hid (iO.out.trans (hf2.mono (fun _ h _=>absurd h af)));have G2:=hid (oO.out.iS hf2);have FH:=hid (oD.out.fr hf2 af);have z1:=FH.out 1 _ rfl;clear hf2 y0 y1 y2 y3;go_wp2_with fail;refine(mF _ _).mono ?_;rintro e' w2' ⟨rfl,rfl⟩;generalize side (ah s C' k)=sa at *;generalize side (tE s C' e)=sb at *;obtain⟨v,hv⟩:∃v,v=if sa=sb then sa else s.own:=⟨_,rfl⟩
       have WO:=hid hv;rw[<-hv]at HNA;clear hv;by_cases Q7:sa=sb
       case' pos =>
        subst Q7;have HW:=hid (show v=sa by rw[WO.out,ay rfl])
       case' neg =>
        have HW:=hid (show v=s.own by rw[WO.out,au Q7])
       all_goals (
        go_wp2
        go_loopw [11] (fun a wr=>∃(j:Nat),a=.int .i64 j/\k<=j/\j<=e/\Hid (PS wr q (iE s.I k v (j - k) C') L G)/\Hid (Fr [q.bC] w wr)/\Hid (kB wr w.heap.size bI m cI s.own s.iq s.jR)) (fun a _=>e - (intOf a).toNat)
        case atStart=>exact⟨k,rfl,ak _,hke,hid (by rw[bY];exact G2.out),gP,FH⟩
        case round =>
         obtain⟨j,rfl,hkj,DI,uu,jP,xg⟩:=hrel
         have x05:=xg.out 0 _ rfl
         have d25:=uu.out.c2
         rcases bP j e with hjl | hjl
         ·obtain⟨hjj,p1,p2,p3,p4⟩:=pq uu.out HI.out jP.out (show j<s.I.length by rw[<-HM.out];omega)
          have yA:=hid (CL s.I k j v C' hkj)
          have GQ:=hid (fun z=>uu.out.oX hjj z)
          generalize hfj:iE s.I k v (j+1 - k) C'=F2 at *
          have QG:=hid hfj
          clear hfj
          generalize iE s.I k v (j - k) C'=C3 at *
          dsimp only[put]at yA
          generalize fX s.I j=ij at *
          generalize nth C3 ij=yj at *
          clear p4
          go_wp2
          go_region
          go_wp2
          go_roundw
          case rel=>exact⟨j+1,by go_num,by omega,by omega,hid (by rw[QG.out,yA.out,HW.out];exact(GQ.out _).iS (iD _ _ _ rfl rfl rfl rfl)),hid ((jP.out.set (aj.2 rfl) _).trans (iD _ _ _ rfl rfl rfl rfl)),hid ((xg.out.fr (gH _ q.bC ij _) A9.out).fr (S:=[]) (iD _ _ _ rfl rfl rfl rfl) af)⟩
          case measure=>simp[intOf];omega
         ·have CK:j=e:=by omega
          have ID:=hid (show PS wr q (kH s k e C') L G by rw[HNA.out,<-CK];exact uu.out)
          have hjd:¬(j:Int)<(e:Int):=by omega
          clear CK
          go_wp2
          go_roundw
          case rel=>exact⟨e,kH s k e C',by go_num,hem,To,ID,jP,xg⟩
          case measure=>simp[intOf];omega)
     ·have hx2:k<e:=by omega
      have To:=hid (E2 (fun a k C h1 h2=>F1 G8.out a k C h1 h2) hx2 (show e<=s.I.length by rw[<-HM.out];exact hem) HE.out (.inl (by rw[<-HM.out];omega)) WM.out);have h1':¬(e:Int)<(m:Int):=by omega
      go_wp2_with fail;refine(WA.out _ ?_ ?_).mono ?_
      ·exact mO.out.iS (iD _ _ _ rfl rfl rfl rfl)
      ·exact HI.out.fr (f_.out.trans (iD _ _ _ rfl rfl rfl rfl)) (fun e=>nI (aj.1 e))
      rintro e' w1 ⟨rfl,hf1⟩;have iO:=hid (f_.out.trans (w'':=w1) ⟨hf1.os,hf1.tape,hf1.output,hf1.size,fun k h1 _=>hf1.block k h1 af⟩);have oO:=hid (mO.out.iS (w':=w1) ⟨hf1.os,hf1.tape,hf1.output,hf1.size,hf1.block⟩);have oD:=hid (qV.out.fr (S:=[]) (w':=w1) ⟨hf1.os,hf1.tape,hf1.output,hf1.size,hf1.block⟩ af);have y0:=oD.out 0 _ rfl;have y1:=oD.out 1 _ rfl;have y2:=oD.out 2 _ rfl;have y3:=oD.out 3 _ rfl;clear hf1;go_wp2_with fail;refine(mF _ _).mono ?_;rintro e' w1' ⟨rfl,rfl⟩;go_wp2_with fail;refine(Yd.out _ oO.out (HI.out.fr iO.out (fun e=>nI (aj.1 e)))).mono ?_;rintro e' w2 ⟨rfl,hf2⟩;have gP:=hid (iO.out.trans (hf2.mono (fun _ h _=>absurd h af)));have G2:=hid (oO.out.iS hf2);have FH:=hid (oD.out.fr hf2 af);have z1:=FH.out 1 _ rfl;clear hf2 y0 y1 y2 y3;go_wp2_with fail;refine(mF _ _).mono ?_;rintro e' w2' ⟨rfl,rfl⟩;generalize side (ah s C' k)=sa at *;generalize side (tE s C' e)=sb at *;obtain⟨v,hv⟩:∃v,v=if sa=sb then sa else s.own:=⟨_,rfl⟩
      have WO:=hid hv;rw[<-hv]at HNA;clear hv;by_cases Q7:sa=sb
      case' pos =>
          subst Q7;have HW:=hid (show v=sa by rw[WO.out,ay rfl])
      case' neg =>
          have HW:=hid (show v=s.own by rw[WO.out,au Q7])
      all_goals (
          go_wp2
          go_loopw [11] (fun a wr=>∃(j:Nat),a=.int .i64 j/\k<=j/\j<=e/\Hid (PS wr q (iE s.I k v (j - k) C') L G)/\Hid (Fr [q.bC] w wr)/\Hid (kB wr w.heap.size bI m cI s.own s.iq s.jR)) (fun a _=>e - (intOf a).toNat)
          case atStart=>exact⟨k,rfl,ak _,hke,hid (by rw[bY];exact G2.out),gP,FH⟩
          case round =>
           obtain⟨j,rfl,hkj,DI,uu,jP,xg⟩:=hrel
           have x05:=xg.out 0 _ rfl
           have d25:=uu.out.c2
           rcases bP j e with hjl | hjl
           ·obtain⟨hjj,p1,p2,p3,p4⟩:=pq uu.out HI.out jP.out (show j<s.I.length by rw[<-HM.out];omega)
            have yA:=hid (CL s.I k j v C' hkj)
            have GQ:=hid (fun z=>uu.out.oX hjj z)
            generalize hfj:iE s.I k v (j+1 - k) C'=F2 at *
            have QG:=hid hfj
            clear hfj
            generalize iE s.I k v (j - k) C'=C3 at *
            dsimp only[put]at yA
            generalize fX s.I j=ij at *
            generalize nth C3 ij=yj at *
            clear p4
            go_wp2
            go_region
            go_wp2
            go_roundw
            case rel=>exact⟨j+1,by go_num,by omega,by omega,hid (by rw[QG.out,yA.out,HW.out];exact(GQ.out _).iS (iD _ _ _ rfl rfl rfl rfl)),hid ((jP.out.set (aj.2 rfl) _).trans (iD _ _ _ rfl rfl rfl rfl)),hid ((xg.out.fr (gH _ q.bC ij _) A9.out).fr (S:=[]) (iD _ _ _ rfl rfl rfl rfl) af)⟩
            case measure=>simp[intOf];omega
           ·have CK:j=e:=by omega
            have ID:=hid (show PS wr q (kH s k e C') L G by rw[HNA.out,<-CK];exact uu.out)
            have hjd:¬(j:Int)<(e:Int):=by omega
            clear CK
            go_wp2
            go_roundw
            case rel=>exact⟨e,kH s k e C',by go_num,hem,To,ID,jP,xg⟩
            case measure=>simp[intOf];omega)
   ·have HN:=hid (WJ.out (by rw[isNe_eq];exact aK h5))
    generalize fX s.I k=i at *;generalize nth C' i=y at *;generalize side y=sy at *;have h5':(0:Int)<=sy:=by omega
    go_wp2;go_quiet (first | (go_at_call 92;exact Calls.quiet_of_same (JE.out _)));go_wp2;go_roundw
    case rel=>exact⟨k+1,C',by go_num,by omega,HN,hid (HP.out.iS (iD _ _ _ rfl rfl rfl rfl)),hid (HF.out.trans (iD _ _ _ rfl rfl rfl rfl)),hid (HX.out.fr (S:=[]) (iD _ _ _ rfl rfl rfl rfl) af)⟩
    case measure=>simp[intOf];omega
  ·have hk2:k=s.I.length:=by rw[<-HM.out];omega
   have qp:=hid (show neutral s C=C' from OC (by rw[<-hk2];exact WM.out));have tH:=hid (show PS wr q R L G by rw[HR.out,qp.out];exact HP.out);clear hk2;go_wp2;go_end0;exact⟨rfl,tH.out,HF.out⟩
def Rl (s:ByteArray)(n:Nat):List Int:=(List.range n).map (gJ.rune s)
def Kl (s:ByteArray)(n:Nat):List Int:=(List.range n).map (fun i=>iK.look iK.gm (gJ.rune s i))
theorem kG (s:ByteArray)(n:Nat):(Kl s n).length=n:=by simp[Kl]
theorem UX (s:ByteArray)(n:Nat):Kl s (n+1)=Kl s n++[iK.look iK.gm (gJ.rune s n)]:=by simp[Kl,dA]
theorem K0 (s:ByteArray){n i:Nat}(h:i<n):nth (Rl s n) i=gJ.rune s i:=by simp[nth,Rl,h]
def Q8 (K:List Int)(i:Nat):Int:=if j6 (nth K i)then pZ (kP K i)else -1
def Ml (K:List Int)(n:Nat):List Int:=(List.range n).map (Q8 K)
theorem UY (K:List Int)(n:Nat):Ml K (n+1)=Ml K n++[Q8 K n]:=by simp[Ml,dA]
theorem Ye (K:List Int)(n:Nat):(Ml K n).length=n:=by simp[Ml]
theorem abx (K:List Int){n i:Nat}(h:i<n):nth (Ml K n) i=Q8 K i:=by simp[nth,Ml,h]
theorem WQ:(Tryz.prog.info? 4).map (fun i=>(i.zero,i.size,i.bytes))=some (some (.bool false),1,1):=by kernel_rfl
def om (l:List Int):List Value:=l.map (Value.int .i64)
theorem CM (l:List Int)(x:Int):om l++[.int .i64 x]=om (l++[x]):=by simp[om]
theorem M1 (l:List Int):(om l).length=l.length:=by simp[om]
theorem Q9 {l:List Int}{j:Nat}(h:j<l.length):(om l)[j]?=some (.int .i64 (nth l j)):=by
 rw[om,bV,az h];simp[nth,az h]
theorem M3 (l:List Int):∀u∈om l,u.oneCell'=true:=by
 intro u hu;obtain⟨x,_,rfl⟩:=dP.1 hu;rfl
theorem xu {w:World}{B:Nat}{n g cap:Nat}{l:List Int}(h:w.ownsRow B 3 1 (.slice (some ⟨g,0,none⟩) n cap) n (om l))(hl:l.length=n):rowAt w g n l:=by
 intro i hi;rw[h.cellAt i (by omega),Q9 (by omega)]
def oG (w:World)(p:Nat)(cs:Array Value):Prop:=w.heap[p]?=some (.cells cs 32 (0,0))
theorem oG.cell {w:World}{p:Nat}{cs:Array Value}(h:oG w p cs){i:Nat}{v:Value}(hv:cs[i]?=some v):w.cell? ⟨p,i,none⟩=some v:=by
 rw[fu w p i cs 32 (0,0) h];exact hv
theorem oG.j8 {w:World}{p:Nat}{cs:Array Value}(h:oG w p cs)(i:Nat):w.frozen? ⟨p,i,none⟩=false:=fF w p i cs 32 h
theorem oG.fr {S:List Nat}{w w':World}{p:Nat}{cs:Array Value}(h:oG w p cs)(hf:Fr S w w')(hp:p ∉ S):oG w' p cs:=(hf.block p (aD.1 h).1 hp).trans h
theorem oG.grown {w w':World}{row:Option Nat}{p:Nat}{cs:Array Value}(h:oG w p cs)(hg:w.grownBy w' row)(hp:some p≠row):oG w' p cs:=(hg.block p (aD.1 h).1 hp).trans h
theorem oG.set {w:World}{p:Nat}{cs:Array Value}(h:oG w p cs)(i:Nat)(v:Value):oG (w.setCell ⟨p,i,none⟩ v) p (cs.setIfInBounds i v):=fA w p i cs 32 v h
theorem oG.lt {w:World}{p:Nat}{cs:Array Value}(h:oG w p cs):p<w.heap.size:=(aD.1 h).1
theorem A_ (w:World)(b n:Nat)(z:Value)(e:TypeId)(h:w.heap[b]?=some (.cells (madeCells #[z] n) e (0,0))){i:Nat}(hi:i<n):w.cell? ⟨b,i,none⟩=some z/\w.frozen? ⟨b,i,none⟩=false:=by
 refine⟨?_,fF w b i _ e h⟩;rw[fu w b i _ e (0,0) h,<-Array.getElem?_toList,toList_madeCells_one];simp[hi]
theorem kO (W:World)(a b c:Obj):(((W.alloc a).alloc b).alloc c).heap[W.heap.size]?=some a/\(((W.alloc a).alloc b).alloc c).heap[W.heap.size+1]?=some b/\(((W.alloc a).alloc b).alloc c).heap[W.heap.size+1+1]?=some c:=by
 have e1:(W.alloc a).heap.size=W.heap.size+1:=by simp
 have e2:((W.alloc a).alloc b).heap.size=W.heap.size+1+1:=by simp
 refine⟨?_,?_,?_⟩
 ·rw[heap_alloc_old _ _ (by omega),heap_alloc_old _ _ (by omega)];exact fH W a
 ·rw[heap_alloc_old _ _ (by omega),<-e1];exact fH _ b
 ·rw[<-e2];exact fH _ c
theorem PS.make {w:World}{p bR bF bC bL bM bG cR cF cC cM n B:Nat}{R K M:List Int}{base:Int}(hp:oG w p #[.slice (some ⟨bR,0,none⟩) n cR,.slice (some ⟨bF,0,none⟩) n cF,.slice (some ⟨bC,0,none⟩) n cC,.slice (some ⟨bL,0,none⟩) n n,.slice (some ⟨bM,0,none⟩) n cM,.slice (some ⟨bG,0,none⟩) n n,.int .i64 base])
 (hR:O5 w bR n R) (hF:rowAt w bF n K) (hC:w.ownsRow B 3 1 (.slice (some ⟨bC,0,none⟩) n cC) n (om K)) (hM:rowAt w bM n M) (hL:w.heap[bL]?=some (.cells (madeCells #[.int .i64 0] n) 3 (0,0))) (hG:w.heap[bG]?=some (.cells (madeCells #[.bool false] n) 4 (0,0))) (hK:K.length=n)
 (Im:bC≠p/\bC≠bR/\bC≠bF/\bC≠bM) (Ok:bL≠p/\bL≠bR/\bL≠bF/\bL≠bM) (I3:bG≠p/\bG≠bR/\bG≠bF/\bG≠bM) (O6:bC≠bL/\bC≠bG/\bL≠bG) :
 PS w ⟨p,bR,bF,bC,bL,bM,bG,cR,cF,cC,n,cM,n,n,R,K,M,base⟩ K (List.replicate K.length 0) (tV K 0) where
 c0:=hp.cell (i:=0) rfl
 c1:=hp.cell (i:=1) rfl
 c2:=hp.cell (i:=2) rfl
 c3:=hp.cell (i:=3) rfl
 c4:=hp.cell (i:=4) rfl
 c5:=hp.cell (i:=5) rfl
 c6:=hp.cell (i:=6) rfl
 rR:=hR
 rF:=hF
 rM:=hM
 rC:=xu hC hK
 rL:=fun i hi=>by
  rw[(A_ w bL n _ 3 hL hi).1];have:nth (List.replicate K.length 0) i=0:=by
   have h:i<K.length:=by rw[hK];exact hi
   simp[nth,h]
  rw[this]
 rG:=fun i hi=>by
  rw[(A_ w bG n _ 4 hG hi).1];have h:i<K.length:=by rw[hK];exact hi
  simp[tV,h]
 sC:=fun i _=>hC.frozenAt i
 sL:=fun i hi=>(A_ w bL n _ 3 hL hi).2
 sG:=fun i hi=>(A_ w bG n _ 4 hG hi).2
 lC:=hK
 lL:=by rw[List.length_replicate];exact hK
 lG:=by rw[AZ];exact hK
 Im:=Im
 Ok:=Ok
 I3:=I3
 O6:=O6
theorem JG {K:List Int}{rs:List (List Nat)}{N:Nat}(h:rs.length<=N):(ny K rs).length<=N:=by
 have:∀m,(jZ K rs m).length<=m:=by
  intro m
  induction m with
  | zero=>simp[jZ]
  | succ m ih =>
    rw[jZ];split
    ·rw[aG];simp;omega
    ·omega
 exact a_ (this rs.length) h
def rowP (w:World)(g n:Nat)(P:Nat->Nat):Prop:=∀i,i<n->w.cell? ⟨g,i * 3+1,none⟩=some (.int .i64 (P i:Nat))
theorem rowP.fr {S:List Nat}{w w':World}{g n:Nat}{P:Nat->Nat}(h:rowP w g n P)(hf:Fr S w w')(hg:g ∉ S):rowP w' g n P:=fun i hi=>hf.cell (h i hi) hg
theorem M4 (s:ByteArray)(b:Int)(w:World)(hs:s.size<=1000000)(hT:Lib.Utf8Tabs 1 2 w)(n:Nat)(hend:gJ.Ends s n)(h0:0<n)(hb:b=0\/b=1\/b=2) :
 Calls prog 11 #[.string s,.int .i64 b] w fun e w'=>∃(q:PH) (C:List Int) (G:List Bool),e=.returned (.pointer (some ⟨q.p,0,none⟩))/\PS w' q C (levels (Rl s n) (Kl s n) (gS (Kl s n) b)) G/\q.n=n/\q.K=Kl s n/\q.base=gS (Kl s n) b/\(∀i,i<n->(G[i]?).getD false=gone (nth (Kl s n) i))/\rowP w' q.bR n (gJ.pos s)/\Fr [] w w':=by
 have HD:=hid (mE.tZ s w hs hT);have HE:=hid hend;have hns:n<=1000000:=by have:=gJ.lU s n;have:=hend.1;omega
 obtain⟨bs,hbs⟩:∃bs,bs=gS (Kl s n) b:=⟨_,rfl⟩;obtain⟨LL,hLL⟩:∃LL,LL=levels (Rl s n) (Kl s n) bs:=⟨_,rfl⟩;rw[<-hbs,<-hLL];have xF:=hid hbs;have tI:=hid hLL;have WR:bs=0\/bs=1:=by rw[hbs,gS];split;(split;exact .inr rfl;exact .inl rfl);omega
 clear hT hend hbs hLL;go_enter func11,ntmps11;go_wp2_with fail;refine HD.out.mono ?_;rintro e W ⟨n',v,hn',rfl,own,hbel,hnil⟩;obtain rfl:=gJ.jT HE.out hn';obtain⟨bR,cR,hv⟩:=fR h0 own;subst hv;have HW:=hid (Fr.of_below (S:=[]) hbel);have HO:=hid own;clear own hbel hnil hn' HD;obtain⟨i3,hi3,rQ,rS,hz32⟩:=e_ info3;obtain⟨i4,hi4,Yf,Yg,Yh⟩:=e_ WQ;obtain⟨ZL,K1⟩:∃ZL,ZL=madeCells #[.int .i64 0] n:=⟨_,rfl⟩;obtain⟨ZG,Tl⟩:∃ZG,ZG=madeCells #[.bool false] n:=⟨_,rfl⟩;have M5:∀X:World,(Instr.makeSlice 22 (.int .i64 n) (.int .i64 n)).run prog X=.ok (.slice (some ⟨X.heap.size,0,none⟩) n n) (X.alloc (.cells ZL 3)):=fun X=>by
  have:=run_make (P:=prog) X 22 3 i3 _ underlying22 hi3 rQ .i64 .i64 n n (by omega) (dU _) (by rw[hz32];omega) (by omega);rw[rS,dS]at this;rw[K1];exact this
 have Yi:∀X:World,(Instr.makeSlice 30 (.int .i64 n) (.int .i64 n)).run prog X=.ok (.slice (some ⟨X.heap.size,0,none⟩) n n) (X.alloc (.cells ZG 4)):=fun X=>by
  have:=run_make (P:=prog) X 30 4 i4 _ underlying30 hi4 Yf .i64 .i64 n n (by omega) (dU _) (by rw[Yh];omega) (by omega);rw[Yg,dS]at this;rw[Tl];exact this
 have HZL:=hid K1;have HZG:=hid Tl;clear K1 Tl;go_upto_region 3 with fail
 go_cut [7]from 21 to 28 (fun a wx=>∃p bL bG:Nat,a=.pointer (some ⟨p,0,none⟩)/\Hid (Fr [] W wx/\oG wx p #[.slice (some ⟨bR,0,none⟩) n cR,.slice none 0 0,.slice none 0 0,.slice (some ⟨bL,0,none⟩) n n,.slice none 0 0,.slice (some ⟨bG,0,none⟩) n n,.int .i64 b]/\wx.heap[bL]?=some (.cells ZL 3 (0,0))/\wx.heap[bG]?=some (.cells ZG 4 (0,0))/\W.heap.size<=p/\W.heap.size<=bL/\W.heap.size<=bG))
 case first =>
  go_region
  all_goals go_wp2
  all_goals go_meet
  ·exact⟨W.heap.size+1+1,W.heap.size,W.heap.size+1,rfl,hid ⟨((((Fr.refl [] W).alloc _).alloc _).alloc _).drew,(kO W _ _ _).2.2,(kO W _ _ _).1,(kO W _ _ _).2.1,by omega,by omega,by omega⟩⟩
  ·exact⟨W.heap.size+1+1,W.heap.size+1,W.heap.size,rfl,hid ⟨((((Fr.refl [] W).alloc _).alloc _).alloc _).drew,(kO W _ _ _).2.2,(kO W _ _ _).2.1,(kO W _ _ _).1,by omega,by omega,by omega⟩⟩
 case rest =>
  obtain⟨p,bL,bG,rfl,HV⟩:=hcut;obtain⟨V1,hV1⟩:∃V1,V1=wc:=⟨_,rfl⟩;subst hV1;clear M5 Yi;have j9:=hid HV.out.2.1;have hpL:=j9.out.lt
  have DA:=hid (fun(X:World) (hf:Fr [p] V1 X)=>(show rowP X bR n (gJ.pos s)from fun i hi=>by
   have h1:=HO.out.cellAt (i * 3+1) (by omega)
   rw[(gJ.p7 _ i _ (gJ.y_ s n i hi)).2.1]at h1
   refine hf.cell (HV.out.1.cell h1 af) (fun h=>?_)
   have h2:=(fZ HO.out).2
   have h3:=HV.out.2.2.2.2.1
   have h4:=aj.1 h
   omega))
  have HRR:=hid (fun(X:World) (hf:Fr [p] V1 X) i (hi:i<n)=>(show X.cell? ⟨bR,i * 3,none⟩=some (.int .i32 (gJ.rune s i)) by
   have h1:=HO.out.cellAt (i * 3) (by omega)
   rw[(gJ.p7 _ i _ (gJ.y_ s n i hi)).1]at h1
   refine hf.cell (HV.out.1.cell h1 af) (fun h=>?_)
   have h2:=(fZ HO.out).2
   have h3:=HV.out.2.2.2.2.1
   have h4:=aj.1 h
   omega))
  go_wp2;go_loopw [8] (fun ii wr=>∃(i:Nat) (vF:Value),ii=.int .i64 i/\i<=n/\Hid (Fr [p] V1 wr)/\Hid (oG wr p #[.slice (some ⟨bR,0,none⟩) n cR,vF,.slice none 0 0,.slice (some ⟨bL,0,none⟩) n n,.slice none 0 0,.slice (some ⟨bG,0,none⟩) n n,.int .i64 b])/\Hid (wr.ownsRow V1.heap.size 3 1 vF i (om (Kl s i)))) (fun ii _=>n - (intOf ii).toNat)
  case atStart=>exact⟨0,_,rfl,aH _,hid (Fr.refl _ _),j9,hid (eY _ _ _ _)⟩
  case round =>
   obtain⟨i,vF,rfl,hin,HF,HP,T9⟩:=hrel;by_cases hlt:i<n
   ·have e1:=HRR.out wr HF.out i hlt
    have FV:=hid (mE.gG (gJ.rune s i) wr);have HKS:=hid (UX s i);generalize gJ.rune s i=r at *;generalize iK.look iK.gm r=c at *;have sY:(i:Int)<(n:Int):=by omega
    have hsz:=HF.out.size;obtain⟨a1,c1,hv1⟩:=gA T9.out;subst hv1;go_wp2_with fail;refine FV.out.mono ?_;rintro e w2 ⟨rfl,hb2⟩;have f_:=hid (Fr.of_below (S:=[]) hb2);have mO:=hid (HP.out.fr f_.out af);have aby:=hid (fS T9.out f_.out);have d1:=mO.out.cell (i:=1) rfl;have hsz2:=f_.out.size;have akK:=mO.out.lt;clear hb2 e1 FV;go_wp2_with (at_builtin;refine eV _ rfl _ _ 22 rfl V1.heap.size 3 i3 _ 1 8 underlying22 hi3 rQ rS hz32 rfl (by decide) _ i (om (Kl s i)) rfl ?own _ 1 1 [.int .i64 c] rfl rfl (iC _ _ _ _ (by simp)) (one_cell _) (by unfold maxLen;omega) (by omega) ?nY ?_)
    case own=>exact fS aby.out ((Fr.refl [] w2).alloc _)
    case nY=>simp;omega
    intro v' w3 gM hgrow hnil;obtain⟨g',c',hv'⟩:=fR (by omega) gM;subst hv';have hne:∀k,some k=(Value.slice a1 i c1).ownBlock->V1.heap.size<=k:=fun k hk=>(aby.out.lt k hk.symm).1
    have oO:=hid ((mO.out.fr ((Fr.refl [] w2).alloc (.cells #[.int .i64 c] 3)) af).grown hgrow (fun e=>by have:=hne p e;omega));have iO:=hid (Fr.grown ((HF.out.trans (f_.out.mono (fun _ h _=>absurd h af))).alloc (.cells #[.int .i64 c] 3)) hgrow (fun k hk=>hne k hk.symm));have f1:=oO.out.cell (i:=1) rfl;have f2:=oO.out.j8 1;have k9:=hid gM;have tK:p≠g':=by have:=(fZ gM).1;omega
    clear gM hgrow hnil hne d1;go_wp2;go_roundw
    case rel=>exact⟨i+1,_,by go_num,by omega,hid (iO.out.set (aj.2 rfl) _),hid (oO.out.set 1 _),hid (by rw[HKS.out,<-CM];exact j_ k9.out (gH _ p 1 _) (fun g hg hm=>by cases hg;exact tK (aj.1 hm).symm))⟩
    case measure=>simp[intOf];omega
   ·have hie:n=i:=by omega
    subst hie;have sY:¬(n:Int)<(n:Int):=by omega
    obtain⟨bF,cF,hvF⟩:=fR h0 T9.out;subst hvF;have d1:=HP.out.cell (i:=1) rfl;have d2:=HP.out.cell (i:=2) rfl;have f2:=HP.out.j8 2;have hpw:=HP.out.lt;have Yj:=hid (show(om (Kl s n)).length=n * 1 by rw[M1,kG];omega);clear hin;go_upto_region 9 with fail
    go_cut []from 50 to 61 (fun wx=>∃(bC cC:Nat),Hid (Fr [p] V1 wx)/\Hid (oG wx p #[.slice (some ⟨bR,0,none⟩) n cR,.slice (some ⟨bF,0,none⟩) n cF,.slice (some ⟨bC,0,none⟩) n cC,.slice (some ⟨bL,0,none⟩) n n,.slice none 0 0,.slice (some ⟨bG,0,none⟩) n n,.int .i64 b])/\Hid (wx.ownsRow V1.heap.size 3 1 (.slice (some ⟨bF,0,none⟩) n cF) n (om (Kl s n)))/\Hid (wx.ownsRow wr.heap.size 3 1 (.slice (some ⟨bC,0,none⟩) n cC) n (om (Kl s n)))/\bF<bC/\p<bC)
    case first =>
     go_region_law (refine step_append_grows rfl (.tmp 54) (.tmp 58) 22 rfl 3 i3 _ 1 8 underlying22 hi3 rQ rS hz32 rfl (by decide) none 0 0 [] ?q1 (fun _=>⟨rfl,rfl⟩) rfl ?q2 ⟨bF,0,none⟩ n cF (om (Kl s n)) ?q3 Yj.out ?q4 (M3 _) (by omega) (by unfold maxLen;omega) (by omega) ?_;(case q1=>simp[Act.eval,Act.put]);(case q2=>intro b h;cases h);(case q3=>simp[Act.eval,Act.put]);(case q4=>exact T9.out.cells rfl);intro v' w' hown hgrow;obtain⟨g',c',hv'⟩:=fR (by omega) hown;subst hv';have ZQ:=hid hown;have qV:=hid hgrow;have oD:=hid (oG.grown (w:=wr.drew) (show oG wr.drew p _ from HP.out) hgrow (fun e=>by cases e));have g1:=oD.out.cell (i:=2) rfl;have g2:=oD.out.j8 2;clear hown hgrow)
     all_goals (
      go_wp2
      go_meet
      case rel =>
       have hg':=fZ ZQ.out
       have hfl:=(fZ T9.out).2
       have hgw:wr.heap.size<=g':=hg'.1
       refine⟨g',c',hid ((Fr.grown (HF.out.drew) qV.out (fun k h=>by cases h)).set (aj.2 rfl) _),hid (oD.out.set 2 _),hid ?_,hid ?_,by omega,by omega⟩
       ·exact j_ (iF (w:=wr.drew) T9.out qV.out (fun g hg e=>by cases e)) (gH _ p 2 _) (fun g hg hm=>by cases hg;have:=(fZ T9.out).1;have h5:bF=p:=aj.1 hm;omega)
       ·have h:=ZQ.out
        rw[c_,bU]at h
        exact j_ h (gH _ p 2 _) (fun g hg hm=>by cases hg;have h5:g'=p:=aj.1 hm;omega))
    case rest =>
     obtain⟨bC,cC,iy,DD,kT,UU,hFC,hpC⟩:=hcut;obtain⟨V,hV⟩:∃V,V=wc:=⟨_,rfl⟩;subst hV;have hbF:=fZ kT.out;have hbC:=fZ UU.out;have akM:=hpL;have M6:=hid (fun(X:World) (hf:Fr [p] V X)=>(show rowAt X bF n (Kl s n)from(xu kT.out (kG s n)).fr hf (fun h=>by have:=aj.1 h;omega)));clear d1 d2 f2 hpw;go_wp2;go_loopw [10] (fun ii wr=>∃(i:Nat) (vM:Value),ii=.int .i64 i/\i<=n/\Hid (Fr [p] V wr)/\Hid (oG wr p #[.slice (some ⟨bR,0,none⟩) n cR,.slice (some ⟨bF,0,none⟩) n cF,.slice (some ⟨bC,0,none⟩) n cC,.slice (some ⟨bL,0,none⟩) n n,vM,.slice (some ⟨bG,0,none⟩) n n,.int .i64 b])/\Hid (wr.ownsRow V.heap.size 3 1 vM i (om (Ml (Kl s n) i)))) (fun ii _=>n - (intOf ii).toNat)
     case atStart=>exact⟨0,_,rfl,aH _,hid (Fr.refl _ _),DD,hid (eY _ _ _ _)⟩
     case round =>
      obtain⟨i,vM,rfl,hin,Aj,EF,Ua⟩:=hrel;by_cases hlt:i<n
      ·have aeX:(i:Int)<(n:Int):=by omega
       have e1:=M6.out wr Aj.out i hlt;have d1:=EF.out.cell (i:=1) rfl;have d4:=EF.out.cell (i:=4) rfl;have f4:=EF.out.j8 4;have hpw:=EF.out.lt;have PU:=Aj.out.size;obtain⟨a1,c1,hv1⟩:=gA Ua.out;subst hv1;have HMS:=hid (UY (Kl s n) i);have Yk:=hid (gG (nth (Kl s n) i));have afF:=hid (Eb bF n cF (Kl s n) i wr (kG s n) hns (by omega) (M6.out wr Aj.out));have WS:=hid (show Q8 (Kl s n) i=if j6 (nth (Kl s n) i)then pZ (kP (Kl s n) i)else -1 from rfl);generalize nth (Kl s n) i=c at *;generalize pZ (kP (Kl s n) i)=mt at *;generalize hmv:Q8 (Kl s n) i=mv at *;clear hmv;cases hc:j6 c
       case' false =>
        rw[hc]at WS Yk;have HMV:=hid (show mv=-1 from WS.out);have hmv:=HMV.out
       case' true =>
        rw[hc]at WS Yk;have HMV:=hid (show mv=mt from WS.out);have hmv:=HMV.out
       all_goals (
        subst hmv
        clear hc WS HMV
        go_wp2_with (first | (go_at_call 41;refine(Yk.out _).mono ?_;rintro e' w' ⟨rfl,rfl⟩) | (go_at_call 42;refine afF.out.mono ?_;rintro e' w' ⟨rfl,rfl⟩) | (at_builtin;refine eV _ rfl _ _ 22 rfl V.heap.size 3 i3 _ 1 8 underlying22 hi3 rQ rS hz32 rfl (by decide) _ i (om (Ml (Kl s n) i)) rfl ?own _ 1 1 [.int .i64 _] rfl rfl (iC _ _ _ _ (by simp)) (one_cell _) (by unfold maxLen;omega) (by omega) ?nY ?_))
        case own=>exact fS Ua.out ((Fr.refl [] _).alloc _)
        case nY=>simp;omega
        intro v' w3 gM hgrow hnil
        obtain⟨g',c',hv'⟩:=fR (by omega) gM
        subst hv'
        have hne:∀k,some k=(Value.slice a1 i c1).ownBlock->V.heap.size<=k:=fun k hk=>(Ua.out.lt k hk.symm).1
        have oO:=hid ((EF.out.fr ((Fr.refl [] _).alloc _) af).grown hgrow (fun e=>by have:=hne p e;omega))
        have iO:=hid (Fr.grown (Aj.out.alloc _) hgrow (fun k hk=>hne k hk.symm))
        have f1:=oO.out.cell (i:=4) rfl
        have f2:=oO.out.j8 4
        have k9:=hid gM
        have tK:p≠g':=by have:=(fZ gM).1;omega
        clear gM hgrow hnil hne d1 d4 f4
        go_wp2
        go_roundw
        case rel=>exact⟨i+1,_,by go_num,by omega,hid (iO.out.set (aj.2 rfl) _),hid (oO.out.set 4 _),hid (by rw[HMS.out,<-CM];exact j_ k9.out (gH _ p 4 _) (fun g hg hm=>by cases hg;exact tK (aj.1 hm).symm))⟩
        case measure=>simp[intOf];omega
       )
      ·have hie:n=i:=by omega
       subst hie;obtain⟨bM,cM,hvM⟩:=fR h0 Ua.out;subst hvM;have d1:=EF.out.cell (i:=1) rfl;have d6:=EF.out.cell (i:=6) rfl;have f6:=EF.out.j8 6;have hpw:=EF.out.lt;have M7:=hid (fun(X:World) (hf:Fr [p] V X)=>rA bF n cF (Kl s n) 0 n X (kG s n) hns (ak _) (aH _) (M6.out X hf));clear hin;go_upto_if 93 with fail
       go_cut []from 92 to 106 (fun wx=>Hid (Fr [p] wr wx)/\Hid (oG wx p #[.slice (some ⟨bR,0,none⟩) n cR,.slice (some ⟨bF,0,none⟩) n cF,.slice (some ⟨bC,0,none⟩) n cC,.slice (some ⟨bL,0,none⟩) n n,.slice (some ⟨bM,0,none⟩) n cM,.slice (some ⟨bG,0,none⟩) n n,.int .i64 bs]))
       case first =>
        by_cases hb2:b=2
        ·subst hb2
         have Iv:=hid (show bs=if strong (Kl s n) 0 n then 1 else 0 by rw[xF.out,gS,ay rfl,kG]);have ID:=hid (EF.out.set 6 (.int .i64 0));have k6:=ID.out.cell (i:=6) rfl;have k1:=ID.out.cell (i:=1) rfl;have l6:=ID.out.j8 6;cases hst:strong (Kl s n) 0 n
         all_goals (
          rw[hst]at M7 Iv
          have HBU:=hid Iv.out
          clear hst
          go_wp2_with (first | (go_at_call 43;refine(M7.out _ ?_).mono ?_;exact Aj.out.set (aj.2 rfl) _;rintro e' w' ⟨rfl,rfl⟩))
          go_meet)
         ·exact⟨hid ((Fr.refl _ _).set (aj.2 rfl) _),hid (by rw[HBU.out];exact ID.out)⟩
         ·exact⟨hid (((Fr.refl _ _).set (aj.2 rfl) _).set (aj.2 rfl) _),hid (by rw[HBU.out];exact ID.out.set 6 _)⟩
        ·have hbb:(b == 2)=false:=by simp[hb2]
         have Iv:=hid (show bs=b by rw[xF.out,gS,au hb2]);go_wp2;go_meet;exact⟨hid (Fr.refl _ _),hid (by rw[Iv.out];exact EF.out)⟩
       case rest =>
        obtain⟨jP,uu⟩:=hcut;have hbM:=fZ Ua.out;have hbR:=(fZ HO.out).2;have hRp:bR<W.heap.size:=hbR;have hVr:=Aj.out.size;have akP:=iy.out.size;have akQ:=HV.out.1.size;have hLl:bL<V1.heap.size:=(aD.1 HV.out.2.2.1).1;have hGl:bG<V1.heap.size:=(aD.1 HV.out.2.2.2.1).1;have hLp:bL≠p:=fun h=>by have h1:=HV.out.2.1;have h2:=HV.out.2.2.1;rw[h]at h2;unfold oG at h1;rw[h1]at h2;cases h2
        have hGp:bG≠p:=fun h=>by have h1:=HV.out.2.1;have h2:=HV.out.2.2.2.1;rw[h]at h2;unfold oG at h1;rw[h1]at h2;cases h2
        have hLG:bL≠bG:=fun h=>by have h1:=HV.out.2.2.1;have h2:=HV.out.2.2.2.1;rw[h,h2]at h1;cases h1
        have afG:=HV.out.2.2.2.2;obtain⟨hWp,hWL,hWG⟩:=afG;have hfr:Fr [p] V wc:=Aj.out.trans jP.out;have M8:Fr [p] V1 wc:=iy.out.trans hfr;have afH:∃q:PH,q.p=p/\q.n=n/\q.K=Kl s n/\q.R=Rl s n/\q.M=Ml (Kl s n) n/\q.base=bs/\q.bC=bC/\q.bL=bL/\q.bG=bG/\q.bR=bR/\PS wc q q.K (List.replicate q.K.length 0) (tV q.K 0):=by
         refine⟨⟨p,bR,bF,bC,bL,bM,bG,cR,cF,cC,n,cM,n,n,Rl s n,Kl s n,Ml (Kl s n) n,bs⟩,rfl,rfl,rfl,rfl,rfl,rfl,rfl,rfl,rfl,rfl,?_⟩;refine PS.make uu.out (fun i hi=>?_) (M6.out wc hfr) (j_ UU.out hfr (fun g hg hm=>by cases hg;have h5:bC=p:=aj.1 hm;omega)) (xu (j_ Ua.out jP.out (fun g hg hm=>by cases hg;have h5:bM=p:=aj.1 hm;omega)) (Ye _ _)) ?_ ?_ (kG s n) ⟨by omega,by omega,by omega,by omega⟩ ⟨hLp,by omega,by omega,by omega⟩ ⟨hGp,by omega,by omega,by omega⟩ ⟨by omega,by omega,hLG⟩
         ·rw[K0 s hi];exact HRR.out wc M8 i hi
         ·rw[<-HZL.out];exact(M8.block bL hLl (fun h=>hLp (aj.1 h))).trans HV.out.2.2.1
         ·rw[<-HZG.out];exact(M8.block bG hGl (fun h=>hGp (aj.1 h))).trans HV.out.2.2.2.1
        obtain⟨q,ZV,Jh,WT,hqR,hqM,UZ,hqC,hqL,hqG,hqc,ZW⟩:=afH;have Je:=hid (show rowP wc q.bR n (gJ.pos s) by rw[hqc];exact DA.out wc M8);have yg:=hid (show q.bR ∉ [q.bC,q.bL,q.bG]from fun h=>by have h1:=ZW.Im.2.1;have h2:=ZW.Ok.2.1;have h3:=ZW.I3.2.1;simp only[bK,af,eR]at h;omega);have abz:=hid WT;have HQ:=hid ZW;have WH:=hid (show Fr [] w wc from HW.out.trans ((((HV.out.1.mono (fun _ h _=>absurd h af)):Fr [p] W V1).trans M8).mono (fun k hk hlt=>by have h5:k=p:=aj.1 hk;omega)));have HQW:=hid (show w.heap.size<=q.bC/\w.heap.size<=q.bL/\w.heap.size<=q.bG/\w.heap.size<=q.p by have:=HW.out.size;rw[hqC,hqL,hqG,ZV];omega);have Q_:=hid (show q.K.length=q.n by rw[WT,Jh,kG]);have WS:=hid (show ∀i,i<q.n->nth q.M i=if j6 (nth q.K i)then pZ (kP q.K i)else -1 from fun i hi=>by rw[hqM,WT];rw[Jh]at hi;exact abx _ hi);have JH:=hid (MR q wc Q_.out (by rw[Jh];exact hns) (by rw[Jh];exact h0) (by rw[UZ];exact WR) WS.out ZW);have abB:=hid (show LL=levels q.R q.K q.base by rw[tI.out,hqR,WT,UZ]);rw[ZV]at JH;have HQP:=hid ZV;have Tg:=hid Jh;have HQB:=hid UZ;have afJ:q.base=0\/q.base=1:=by rw[UZ];exact WR
        have AN:=hid afJ;have hq0:0<q.n:=by rw[Jh];exact h0
        have hq1:q.n<=1000000:=by rw[Jh];exact hns
        clear ZV Jh WT hqR hqM UZ hqC hqL hqG hqc ZW hfr M8 jP uu M6 HRR DA Aj EF Ua HV j9 HO M7 iy DD kT UU d1 d6 f6;go_wp2_with fail;refine JH.out.mono ?_;rintro e w2 ⟨rfl,hp2,hf2⟩;have mO:=hid hp2;have afK:=hid (Je.out.fr hf2 yg.out);have f_:=hid (show Fr [] w w2 from(((WH.out.mono (fun _ h _=>absurd h af)):Fr [q.bC,q.bL,q.bG] w wc).trans hf2).mono (fun k hk hlt=>by simp at hk;have:=HQW.out;omega));obtain⟨E,hE⟩:∃E,E=gK q.K q.base q.K.length:=⟨_,rfl⟩;rw[<-hE]at mO;have oh:=hid (show E9 q.K q.base q.K.length E by rw[hE];exact nM q.K q.base AN.out _ (ak _));obtain⟨SS,hSS⟩:∃SS,SS=ny q.K (ig q.K E.L q.K.length):=⟨_,rfl⟩;have M9:=hid (show Xl q.K E.L SS by rw[hSS,hE];exact(O1 q.K q.base AN.out).1)
        have Ff:=hid (show ∀i,i<SS.length->0<(run SS i).length from fun i hi=>by
         have hm:=kU hi
         rw[hSS]at hm
         obtain⟨j,hj,e⟩:=sH _ (ak _) _ hm
         rw[hSS,e,ch_eq (oK q.K E.L) hj,aG]
         have:=bB.2 ((oK q.K E.L).ne j hj)
         omega)
        have afL:=hid (show LL=(gU q.K (iI q.R q.K E.L q.base SS SS.length E.C) q.base q.K.length E.L).2 by rw[abB.out,hSS,hE];rfl);have DU:=hid (show ∀i,i<q.n->((tV q.K q.K.length)[i]?).getD false=gone (nth q.K i)from fun i hi=>TD q.K i (by rw[Q_.out];exact hi));have JI:=hid (MQ q E.C E.L w2 Q_.out hq1 (tV q.K q.K.length) DU.out (fun i hi qW=>by rw[WS.out i hi,ay qW]) mO.out);rw[HQP.out,<-hSS]at JI;generalize tV q.K q.K.length=G at *;have afM:SS.length<=1000000:=by
         have h1:=JG (oF q.K E.L q.K.length).1 (K:=q.K);rw[<-hSS,Q_.out]at h1;omega
        clear hp2 hf2 hE hSS JH abB tI;go_wp2_with fail;refine JI.out.mono ?_;rintro e w3 ⟨v,rfl,hv,hf3⟩;have oO:=hid (mO.out.iS hf3);have afN:=hid (afK.out.fr hf3 af);have iO:=hid (f_.out.trans hf3);have HV:=hid hv;have hCl:=mO.out.Td hq0;have akT:=mO.out.ltL hq0;have akU:=mO.out.ltG hq0;have hvs:∃a c,v=.slice a SS.length c:=by
         rcases aS SS.length with h | h
         ·exact⟨none,0,by rw[h];exact hv.1 h⟩
         ·obtain⟨o,cap,h1,_⟩:=hv.2.1 h
          exact⟨_,cap,h1⟩
        obtain⟨va,vc,hvv⟩:=hvs;subst hvv;obtain⟨NS,hNS⟩:∃NS,NS=SS.length:=⟨_,rfl⟩;rw[<-hNS]at afM ⊢;have mo:=hid hNS;clear hf3 JI hv hNS;go_wp2;go_loopw [15] (fun ii wr=>∃(i:Nat),ii=.int .i64 i/\i<=NS/\Hid (PS wr q (iI q.R q.K E.L q.base SS i E.C) E.L G)/\Hid (Fr [q.bC] w3 wr)) (fun ii _=>NS - (intOf ii).toNat)
        case atStart=>exact⟨0,rfl,aH _,oO,hid (Fr.refl _ _)⟩
        case round =>
         obtain⟨i,rfl,hin2,EF,Aj⟩:=hrel;by_cases hlt2:i<NS
         ·skip
          obtain⟨o,cap,hvv,hoB⟩:=HV.out.2.1 (by rw[<-mo.out];omega);rw[<-mo.out]at hvv;cases hvv;obtain⟨g,c,a1,a2,a3⟩:=HV.out.2.2 o vc (by rw[<-mo.out]) i (by rw[<-mo.out];exact hlt2);have hoC:o ∉ [q.bC]:=fun h=>by have:=aj.1 h;omega
          have IC:g ∉ [q.bC]:=fun h=>by have:=aj.1 h;omega
          have hiS:i<SS.length:=by rw[<-mo.out];exact hlt2
          have HIS:=hid (show IS wr q g (run SS i)from⟨(jJ a3 rfl).fr Aj.out IC,fun k hk=>by
           have h:=M9.out.lt i (fX (run SS i) k) hiS (by rw[gZ hk];exact aT hk)
           rw[Q_.out]at h;exact h,⟨by omega,by omega,by omega⟩,by
           have h:=wZ q.K.length (run SS i) 0 (M9.out.so i hiS) (fun x hx=>⟨aH _,M9.out.lt i x hiS hx⟩)
           rw[Q_.out]at h;omega⟩)
          have e1:=Aj.out.cell a1 hoC;have hI0:=Ff.out i hiS;have G8:=hid (sE (M9.out.so i hiS));have Ou:=hid (show iI q.R q.K E.L q.base SS (i+1) E.C=rules q.R q.K (lV q.K E.L q.base (run SS i)) (iI q.R q.K E.L q.base SS i E.C)from rfl);have JJ:=hid (mI q _ E.L G g c (run SS i) wr EF.out HIS.out hI0 hq1 Q_.out DU.out (fun j=>(oh.out.small j).1) (by have:=AN.out;omega));rw[HQP.out]at JJ;obtain⟨sq,E7⟩:∃sq,sq=lV q.K E.L q.base (run SS i):=⟨_,rfl⟩;rw[<-E7]at Ou JJ;have hsI:sq.I=run SS i:=by rw[E7];rfl
          have hbef:sq.iq=0\/sq.iq=1:=by rw[E7];exact wD _
          have haft:sq.jR=0\/sq.jR=1:=by rw[E7];exact wD _
          rw[<-hsI]at HIS hI0 G8 e1 JJ;generalize hC1:iI q.R q.K E.L q.base SS i E.C=C1 at *;obtain⟨m,hm⟩:∃m,m=sq.I.length:=⟨_,rfl⟩;have WO:=hid (show Ee g c sq=.agg #[.slice (some ⟨g,0,none⟩) m c,.int .i64 sq.own,.int .i64 sq.iq,.int .i64 sq.jR] by rw[hm]);have abE:=hid (fun(X:World) (hp:PS X q C1 E.L G) (hi:IS X q g sq.I)=>MY q C1 E.L G g c sq X hp hi hI0 hbef haft (fun C w hp hi=>MZ q C E.L G g c sq w hp hi hI0 hbef haft G8.out));have abF:=hid (fun(X:World) (hp:PS X q (weak q.K sq C1) E.L G) (hi:IS X q g sq.I)=>MU q (weak q.K sq C1) E.L G g c sq X hp hi hI0 _ rfl (Bq q.R sq.I _) (by have h1:=(uF q.R sq.I (weak q.K sq C1) sq.I.length).len;have h2:=hi.sm;omega) (fun w hp hi=>MX q _ E.L G g c sq w hp hi hI0));have abG:=hid (fun(X:World) (hp:PS X q (brackets q.R q.K sq (weak q.K sq C1)) E.L G) (hi:IS X q g sq.I)=>M0 q _ E.L G g c sq X hp hi hI0 G8.out);rw[WO.out,HQP.out]at abE abF abG;rw[WO.out]at JJ;rw[<-hm]at e1 JJ;have afP:(i:Int)<(NS:Int):=by omega
          clear hbef haft hsI E7 hC1 hm a1 a2 a3;go_wp2_with fail;refine JJ.out.mono ?_;rintro e w4 ⟨rfl,jl⟩;have UR:=hid ((EF.out.iS jl).alloc (.cells #[.slice (some ⟨g,0,none⟩) m c,.int .i64 sq.own,.int .i64 sq.iq,.int .i64 sq.jR] 101));have UT:=hid ((HIS.out.fr jl af).fr (S:=[]) ((Fr.refl [] w4).alloc (.cells #[.slice (some ⟨g,0,none⟩) m c,.int .i64 sq.own,.int .i64 sq.iq,.int .i64 sq.jR] 101)) af);have X5:=hid (show kB (w4.alloc (.cells #[.slice (some ⟨g,0,none⟩) m c,.int .i64 sq.own,.int .i64 sq.iq,.int .i64 sq.jR] 101)) w4.heap.size g m c sq.own sq.iq sq.jR from fun j v hv=>by rw[eZ _ _ _ _ rfl];exact hv);have tG:=hid ((Aj.out.trans (jl.mono (fun _ h _=>absurd h af))).alloc (.cells #[.slice (some ⟨g,0,none⟩) m c,.int .i64 sq.own,.int .i64 sq.iq,.int .i64 sq.jR] 101));have hnb:w4.heap.size ∉ [q.bC]:=fun h=>by have h1:=aj.1 h;have h2:=jl.size;have h3:=EF.out.Td hq0;omega
          have sU:=hid hnb;have HGC:=hid IC;clear jl hnb JJ e1 IC
          go_wp2_with (first
           | (go_at_call 47;refine(abE.out _ ?_ ?_).mono ?_;exact UR.out;exact UT.out;rintro e' w5 ⟨rfl,hp5,jC⟩;have uu:=hid hp5;have X2:=hid (X5.out.fr jC sU.out);have ZX:=hid (UT.out.fr jC HGC.out);have jP:=hid (tG.out.trans jC);have u0:=X2.out 0 _ rfl;have u1:=X2.out 1 _ rfl;have u2:=X2.out 2 _ rfl;have u3:=X2.out 3 _ rfl;clear hp5 jC)
           | (go_at_call 48;refine(abF.out _ ?_ ?_).mono ?_;exact uu.out;exact ZX.out;rintro e' w6 ⟨rfl,hp6,jo⟩;have ID:=hid hp6;have HB6:=hid (X2.out.fr jo sU.out);have HI6:=hid (ZX.out.fr jo HGC.out);have s_:=hid (jP.out.trans jo);clear u0 u1 u2 u3;have u0:=HB6.out 0 _ rfl;have u1:=HB6.out 1 _ rfl;have u2:=HB6.out 2 _ rfl;have u3:=HB6.out 3 _ rfl;clear hp6 jo)
           | (go_at_call 49;refine(abG.out _ ?_ ?_).mono ?_;exact ID.out;exact HI6.out;rintro e' w7 ⟨rfl,hp7,Jv⟩;have FK:=hid hp7;have m7:=hid (s_.out.trans Jv);clear hp7 Jv))
          go_roundw
          case rel=>exact⟨i+1,by go_num,by omega,hid (by rw[Ou.out];exact FK.out),m7⟩
          case measure=>simp[intOf];omega
         ·have abH:i=NS:=by omega
          have Ai:=hid (show PS wr q (iI q.R q.K E.L q.base SS SS.length E.C) E.L G by rw[<-mo.out,<-abH];exact EF.out);have afP:¬(i:Int)<(NS:Int):=by omega
          have M_:=hid (zl q _ E.L G wr Ai.out hq1 DU.out (fun j=>⟨(oh.out.small j).1,by have:=(oh.out.small j).2;omega⟩));rw[HQP.out]at M_;clear abH;go_wp2_with (first | (go_at_call 50;refine M_.out.mono ?_;rintro e' w6 ⟨rfl,hp6,jo⟩));go_ret;have hX:=yg.out;simp only[bK,af,eR,not_or]at hX;have h6:=hp6;rw[<-Q_.out,<-afL.out]at h6;refine⟨q,_,G,by rw[HQP.out];rfl,h6,Tg.out,abz.out,HQB.out,fun i hi=>by rw[<-abz.out];exact DU.out i (by rw[Tg.out];exact hi),(afN.out.fr Aj.out (fun h=>hX.1 (aj.1 h))).fr jo (fun h=>hX.2.1 (aj.1 h)),?_⟩
          ·have h1:Fr [q.bC,q.bL] w w6:=((iO.out.mono (fun _ h _=>absurd h af)).trans (Aj.out.mono (fun k hk _=>by simp at hk ⊢;exact .inl hk))).trans (jo.mono (fun k hk _=>by simp at hk ⊢;exact .inr hk))
           exact h1.mono (fun k hk hlt=>by simp at hk;have:=HQW.out;omega)
theorem EH (p:Nat)(b:Int)(w:World)(c2:w.cell? ⟨p,2,none⟩=some (.slice none 0 0))(c6:w.cell? ⟨p,6,none⟩=some (.int .i64 b)) :
 Calls prog 44 #[.pointer (some ⟨p,0,none⟩)] w fun e w'=>e=.returned (.tuple #[])/\Fr [] w w':=by
 have hp:=eS _ _ c2;dsimp only at hp;go_enter func44,ntmps44;go_wp2;go_loopw [6] (fun ii wr=>ii=.int .i64 0/\wr=w.alloc (.cells #[.int .i64 b,.int .i64 (-1),.bool false] 149)) (fun _ _=>0)
 case atStart=>exact⟨rfl,rfl⟩
 case round =>
  obtain⟨rfl,rfl⟩:=hrel;go_wp2;go_end0;exact⟨rfl,(Fr.refl _ _).alloc _⟩
theorem Na (p:Nat)(w:World)(c2:w.cell? ⟨p,2,none⟩=some (.slice none 0 0)) :
 Calls prog 85 #[.pointer (some ⟨p,0,none⟩)] w fun e w'=>e=.returned (.slice none 0 0)/\w'=w:=by
 go_enter func85,ntmps85;go_wp2;go_loopw [3,4] (fun v ii wr=>v=.slice none 0 0/\ii=.int .i64 0/\wr=w) (fun _ _ _=>0)
 case atStart=>exact⟨rfl,rfl,rfl⟩
 case round =>
  obtain⟨rfl,rfl,rfl⟩:=hrel;go_wp2;go_ret;exact⟨rfl,rfl⟩
theorem EI (p:Nat)(w:World)(c2:w.cell? ⟨p,2,none⟩=some (.slice none 0 0)) :
 Calls prog 45 #[.pointer (some ⟨p,0,none⟩)] w fun e w'=>e=.returned (.slice none 0 0)/\w'=w:=by
 have HC:=hid (Na p w c2);go_enter func45,ntmps45;go_wp2_with (first | (go_at_call 85;refine HC.out.mono ?_;rintro e w' ⟨rfl,rfl⟩));go_loopw [4,5] (fun v ii wr=>v=.slice none 0 0/\ii=.int .i64 0/\wr=w') (fun _ _ _=>0)
 case atStart=>exact⟨rfl,rfl,rfl⟩
 case round =>
  obtain⟨rfl,rfl,rfl⟩:=hrel;go_wp2;go_ret;exact⟨rfl,rfl⟩
theorem EJ (p:Nat)(b:Int)(w:World)(c2:w.cell? ⟨p,2,none⟩=some (.slice none 0 0))(c6:w.cell? ⟨p,6,none⟩=some (.int .i64 b)) :
 Calls prog 50 #[.pointer (some ⟨p,0,none⟩)] w fun e w'=>e=.returned (.tuple #[])/\w'=w:=by
 go_enter func50,ntmps50;go_wp2;go_loopw [3] (fun ii wr=>ii=.int .i64 0/\wr=w) (fun _ _=>0)
 case atStart=>exact⟨rfl,rfl⟩
 case round =>
  obtain⟨rfl,rfl⟩:=hrel;go_wp2;go_end0;exact⟨rfl,rfl⟩
theorem Nb (w:World):Calls prog 43 #[.slice none 0 0,.int .i64 0,.int .i64 0] w fun e w'=>e=.returned (.bool false)/\w'=w:=by
 go_enter func43,ntmps43;go_wp2;go_loopw [7] (fun ii wr=>ii=.int .i64 0/\wr=w) (fun _ _=>0)
 case atStart=>exact⟨rfl,rfl⟩
 case round =>
  obtain⟨rfl,rfl⟩:=hrel;go_wp2;go_ret;exact⟨rfl,rfl⟩
theorem DV (s:ByteArray)(b:Int)(w:World)(hs:s.size=0)(hT:Lib.Utf8Tabs 1 2 w)(hb:b=0\/b=1\/b=2) :
 Calls prog 11 #[.string s,.int .i64 b] w fun e w'=>∃p bL,e=.returned (.pointer (some ⟨p,0,none⟩))/\w'.cell? ⟨p,0,none⟩=some (.slice none 0 0)/\w'.cell? ⟨p,3,none⟩=some (.slice (some ⟨bL,0,none⟩) 0 0)/\w'.cell? ⟨p,6,none⟩=some (.int .i64 (gS [] b))/\Fr [] w w':=by
 have HD:=hid (mE.tZ s w (by omega) hT);have HE:=hid (show gJ.Ends s 0 from⟨hs.symm,fun j hj=>absurd hj (bE _)⟩);obtain⟨bs,hbs⟩:∃bs,bs=gS [] b:=⟨_,rfl⟩;rw[<-hbs];have xF:=hid hbs;clear hT hbs;go_enter func11,ntmps11;go_wp2_with fail;refine HD.out.mono ?_;rintro e W ⟨n',v,hn',rfl,own,hbel,hnil⟩;have hn0:=gJ.jT HE.out hn';subst hn0;have hv:=hnil rfl;subst hv;have HW:=hid (Fr.of_below (S:=[]) hbel);clear own hbel hnil hn' HD;obtain⟨i3,hi3,rQ,rS,hz32⟩:=e_ info3;obtain⟨i4,hi4,Yf,Yg,Yh⟩:=e_ WQ;obtain⟨ZL,K1⟩:∃ZL,ZL=madeCells #[.int .i64 0] 0:=⟨_,rfl⟩;obtain⟨ZG,Tl⟩:∃ZG,ZG=madeCells #[.bool false] 0:=⟨_,rfl⟩;have M5:∀X:World,(Instr.makeSlice 22 (.int .i64 0) (.int .i64 0)).run prog X=.ok (.slice (some ⟨X.heap.size,0,none⟩) 0 0) (X.alloc (.cells ZL 3)):=fun X=>by
  have:=run_make (P:=prog) X 22 3 i3 _ underlying22 hi3 rQ .i64 .i64 0 0 (by omega) (dU _) (by rw[hz32];omega) (by omega);rw[rS,dS]at this;rw[K1];exact this
 have Yi:∀X:World,(Instr.makeSlice 30 (.int .i64 0) (.int .i64 0)).run prog X=.ok (.slice (some ⟨X.heap.size,0,none⟩) 0 0) (X.alloc (.cells ZG 4)):=fun X=>by
  have:=run_make (P:=prog) X 30 4 i4 _ underlying30 hi4 Yf .i64 .i64 0 0 (by omega) (dU _) (by rw[Yh];omega) (by omega);rw[Yg,dS]at this;rw[Tl];exact this
 clear K1 Tl;go_upto_region 3 with fail
 go_cut [7]from 21 to 28 (fun a wx=>∃p bL bG:Nat,a=.pointer (some ⟨p,0,none⟩)/\Hid (Fr [] W wx/\oG wx p #[.slice none 0 0,.slice none 0 0,.slice none 0 0,.slice (some ⟨bL,0,none⟩) 0 0,.slice none 0 0,.slice (some ⟨bG,0,none⟩) 0 0,.int .i64 b]/\W.heap.size<=p))
 case first =>
  go_region
  all_goals go_wp2
  all_goals go_meet
  ·exact⟨W.heap.size+1+1,W.heap.size,W.heap.size+1,rfl,hid ⟨((((Fr.refl [] W).alloc _).alloc _).alloc _).drew,(kO W _ _ _).2.2,by omega⟩⟩
  ·exact⟨W.heap.size+1+1,W.heap.size+1,W.heap.size,rfl,hid ⟨((((Fr.refl [] W).alloc _).alloc _).alloc _).drew,(kO W _ _ _).2.2,by omega⟩⟩
 case rest =>
  obtain⟨p,bL,bG,rfl,HV⟩:=hcut;obtain⟨V1,hV1⟩:∃V1,V1=wc:=⟨_,rfl⟩;subst hV1;clear M5 Yi;have j9:=hid HV.out.2.1;have hpL:=j9.out.lt;have d1:=j9.out.cell (i:=1) rfl;have d2:=j9.out.cell (i:=2) rfl;have d6:=j9.out.cell (i:=6) rfl;have f2:=j9.out.j8 2;have f6:=j9.out.j8 6;have hap:∀X:World,(Builtin.append_ #[22,22] 22 #[.slice none 0 0,.slice none 0 0]).run prog X=.ok (.slice none 0 0) X:=fun X=>run_append_owned_none (P:=prog) X X.heap.size 22 22 3 i3 1 underlying22 hi3 (.slice none 0 0) 0 [] (eY _ _ _ _)
  go_wp2;go_loopw [8] (fun ii wr=>ii=.int .i64 0/\wr=V1) (fun _ _=>0)
  case atStart=>exact⟨rfl,rfl⟩
  case round =>
   obtain⟨rfl,rfl⟩:=hrel;go_upto_region 9 with fail
   go_cut []from 50 to 61 (fun wx=>Hid (Fr [p] wr wx/\oG wx p #[.slice none 0 0,.slice none 0 0,.slice none 0 0,.slice (some ⟨bL,0,none⟩) 0 0,.slice none 0 0,.slice (some ⟨bG,0,none⟩) 0 0,.int .i64 b]))
   case first =>
    go_region
    all_goals go_wp2
    all_goals go_meet
    all_goals exact hid ⟨((Fr.refl [p] wr).drew).set (aj.2 rfl) _,j9.out.set 2 _⟩
   case rest =>
    obtain⟨V,hV⟩:∃V,V=wc:=⟨_,rfl⟩;subst hV;have HF:=hid hcut.out.1;have HP:=hid hcut.out.2;clear hcut d1 d2 d6 f2 f6;have akX:=HP.out.lt;have d1:=HP.out.cell (i:=1) rfl;have d6:=HP.out.cell (i:=6) rfl;have f6:=HP.out.j8 6;go_wp2;go_loopw [10] (fun ii wx=>ii=.int .i64 0/\wx=V) (fun _ _=>0)
    case atStart=>exact⟨rfl,rfl⟩
    case round =>
     obtain⟨rfl,rfl⟩:=hrel;have M7:=hid Nb;by_cases hb2:b=2
     ·subst hb2
      have Iv:=hid (show bs=0 from xF.out);have ID:=hid (HP.out.set 6 (.int .i64 0));have s_:=hid ((Fr.refl [p] wr).set (b:=p) (i:=6) (aj.2 rfl) (.int .i64 0));have k2:=ID.out.cell (i:=2) rfl;have k6:=ID.out.cell (i:=6) rfl;have k1:=ID.out.cell (i:=1) rfl;have JH:=hid (EH p 0 _ k2 k6);have Ti:=ID;have HFB:=s_
      go_wp2_with (first
       | (go_at_call 43;refine(M7.out _).mono ?_;rintro e' w' ⟨rfl,rfl⟩)
       | (go_at_call 44;refine JH.out.mono ?_;rintro e' w2 ⟨rfl,hf2⟩;have mO:=hid (Ti.out.fr hf2 af);have f_:=hid (HFB.out.trans (hf2.mono (fun _ h _=>absurd h af)));have m2:=mO.out.cell (i:=2) rfl;have m6:=mO.out.cell (i:=6) rfl;have JI:=hid (EI p w2 m2);have M_:=hid (EJ p bs w2 m2 (by rw[Iv.out];exact m6));clear hf2)
       | (go_at_call 45;refine JI.out.mono ?_;rintro e' w' ⟨rfl,rfl⟩))
      go_loopw [15] (fun ii wx=>ii=.int .i64 0/\wx=w') (fun _ _=>0)
      case atStart=>exact⟨rfl,rfl⟩
      case round =>
       obtain⟨rfl,rfl⟩:=hrel;go_wp2_with (first | (go_at_call 50;refine M_.out.mono ?_;rintro e' w' ⟨rfl,rfl⟩));go_ret;refine⟨p,bL,rfl,mO.out.cell (i:=0) rfl,mO.out.cell (i:=3) rfl,by rw[Iv.out];exact mO.out.cell (i:=6) rfl,?_⟩;have h1:Fr [p] W _:=((HV.out.1.mono (fun _ h _=>absurd h af):Fr [p] W _).trans HF.out).trans f_.out;exact HW.out.trans (h1.mono (fun k hk hlt=>by have h5:k=p:=aj.1 hk;have:=HV.out.2.2;omega))
     ·have hbb:(b == 2)=false:=by simp[hb2]
      have Iv:=hid (show bs=b by rw[xF.out,gS,au hb2]);have k2:=HP.out.cell (i:=2) rfl;have JH:=hid (EH p b wr k2 d6);have Ti:=HP;have HFB:=hid (Fr.refl [p] wr)
      go_wp2_with (first
       | (go_at_call 43;refine(M7.out _).mono ?_;rintro e' w' ⟨rfl,rfl⟩)
       | (go_at_call 44;refine JH.out.mono ?_;rintro e' w2 ⟨rfl,hf2⟩;have mO:=hid (Ti.out.fr hf2 af);have f_:=hid (HFB.out.trans (hf2.mono (fun _ h _=>absurd h af)));have m2:=mO.out.cell (i:=2) rfl;have m6:=mO.out.cell (i:=6) rfl;have JI:=hid (EI p w2 m2);have M_:=hid (EJ p bs w2 m2 (by rw[Iv.out];exact m6));clear hf2)
       | (go_at_call 45;refine JI.out.mono ?_;rintro e' w' ⟨rfl,rfl⟩))
      go_loopw [15] (fun ii wx=>ii=.int .i64 0/\wx=w') (fun _ _=>0)
      case atStart=>exact⟨rfl,rfl⟩
      case round =>
       obtain⟨rfl,rfl⟩:=hrel;go_wp2_with (first | (go_at_call 50;refine M_.out.mono ?_;rintro e' w' ⟨rfl,rfl⟩));go_ret;refine⟨p,bL,rfl,mO.out.cell (i:=0) rfl,mO.out.cell (i:=3) rfl,by rw[Iv.out];exact mO.out.cell (i:=6) rfl,?_⟩;have h1:Fr [p] W _:=((HV.out.1.mono (fun _ h _=>absurd h af):Fr [p] W _).trans HF.out).trans f_.out;exact HW.out.trans (h1.mono (fun k hk hlt=>by have h5:k=p:=aj.1 hk;have:=HV.out.2.2;omega))
end Go.Proofs.YtnakejhohdbfdaaGreatDoor

import Derived.LaidEql
import Derived.Stop.Asserts
import Derived.RowKitTokens
import Derived.Test.YtnakejhohdbfdacGreatDoorMao
set_option maxHeartbeats 4000000
set_option maxRecDepth 10000
set_option linter.unusedSimpArgs false
namespace Go.Proofs.YtnakejhohdbfdacGreatDoor
open Go.RowKit j9 Go.Proofs.Tryz
theorem US.far {w:World}{q:UH}{o:Nat}{v:Value}{b j:Nat}{x:Value}(h:w.cell? ⟨b,j,none⟩=some x)(hb:b≠q.U):(w.setCell ⟨q.U,o,none⟩ v).cell? ⟨b,j,none⟩=some x:=by
 rw[cell_far _ _ _ _ _ _ hb.symm];exact h
theorem US.off {w:World}{q:UH}{o:Nat}{v:Value}{j:Nat}{x:Value}(h:w.cell? ⟨q.U,j,none⟩=some x)(hj:j≠o):(w.setCell ⟨q.U,o,none⟩ v).cell? ⟨q.U,j,none⟩=some x:=by
 rw[gE _ _ _ _ (fun e=>hj (by cases e;rfl))];exact h
theorem I7 (K:List Int)(s:Sq)(C:List Int)(k:Nat) :
 (¬cl s.I C k=8->lQ K s C k=C) /\
 (cl s.I C k=8->k=0->lQ K s C k=put s.I C k (ah s C k)) /\
 (cl s.I C k=8->0<k->(mh (cl s.I K (k - 1)) || cl s.I K (k - 1) == 22)=true->lQ K s C k=put s.I C k 13) /\
 (cl s.I C k=8->0<k->(mh (cl s.I K (k - 1)) || cl s.I K (k - 1) == 22)=false->lQ K s C k=put s.I C k (ah s C k)):=by
 refine⟨fun h=>?_,fun h h0=>?_,fun h h0 h1=>?_,fun h h0 h1=>?_⟩
 ·rw[lQ,ay h]
 ·rw[lQ,aE h,ay (by omega)]
 ·rw[lQ,aE h,aE ⟨h0,by simpa using h1⟩]
 ·rw[lQ,aE h,ay (fun h2=>by have h3:=h2.2;simp at h1;rcases h3 with h3 | h3;rw[h1.1]at h3;cases h3;exact h1.2 h3)]
theorem PA (q:UH)(C L:List Int)(S Q cQ:Nat)(s:Sq)(lv:Int)(w:World)(hu:US w q C L)(hs:SS w q S Q cQ s lv) :
 Calls prog 178 #[.pointer (some ⟨S,0,none⟩)] w fun e w'=>e=.returned (.tuple #[])/\US w' q (jD q.K s s.I.length C) L/\Fr [q.U] w w':=by
 have c0:=hs.c0;have sm:=hs.sm;have nS:=hs.ne.1;have nQ:=hs.ne.2;have HU:=hid hu;have HS:=hid hs;obtain⟨m,hm⟩:∃m,m=s.I.length:=⟨_,rfl⟩;have HM:=hid hm;rw[<-hm]at c0 sm ⊢;clear hu hs hm;go_enter func178,ntmps178;go_wp2;go_loopw [9] (fun a wr=>∃(k:Nat),a=.int .i64 k/\k<=m/\Hid (US wr q (jD q.K s k C) L)/\Hid (Fr [q.U] w wr)) (fun a _=>m - (intOf a).toNat)
 case atStart=>exact⟨0,rfl,aN _,HU,hid (Fr.refl _ _)⟩
 case round =>
  obtain⟨k,rfl,hk,HP,HF⟩:=hrel;by_cases hlt:k<m
  ·obtain⟨hi,p1,p2,p3,p4⟩:=ER HP.out HS.out HF.out (show k<s.I.length by rw[<-HM.out];exact hlt)
   have V8:=hid (HS.out.Ks HF.out);have r0:=V8.out.c0;rw[<-HM.out]at r0;have wW:=hid (fun z=>HP.out.Cc hi z);have HST:=hid (show jD q.K s (k+1) C=lQ q.K s (jD q.K s k C) k from rfl);have nZ:=hid (I7 q.K s (jD q.K s k C) k);have SA:=hid (xQ q _ L S Q cQ s lv k wr HP.out V8.out (by rw[<-HM.out];exact hk));rw[<-HST.out]at nZ;have hpr:k=0\/∃j,k=j+1/\iP s.I j<q.n/\wr.cell? ⟨Q,j,none⟩=some (.pointer (some ⟨q.U,iP s.I j * 4,none⟩))/\wr.cell? ⟨q.U,iP s.I j * 4+1,none⟩=some (.int .i64 (nth q.K (iP s.I j))):=by
    rcases bO k with h | h
    ·exact .inl h
    ·obtain⟨hi',p1',_,_,p4'⟩:=ER HP.out HS.out HF.out (show k - 1<s.I.length by rw[<-HM.out];omega)
     exact .inr ⟨k - 1,by omega,hi',p1',p4'⟩
   generalize Cn:jD q.K s (k+1) C=N2 at *;have qE:=hid Cn;clear Cn HST p4;generalize jD q.K s k C=N at *;dsimp only[cl,put]at nZ p2 p3 wW;generalize hav:ah s N k=av at *;clear hav;by_cases hy:nth N (iP s.I k)=8
   ·rcases hpr with h0 | ⟨j,hj,hi',p1',p4'⟩
    ·have HN:=hid (nZ.out.2.1 hy h0)
     rw[hy]at p2;generalize iP s.I k=i at *;have h0d:decide ((0:Int)<(k:Int))=false:=by simp;omega
     have h0e:decide (0<k)=false:=by simp;omega
     clear hy nZ h0;go_wp2_with (first | (go_at_call 193;refine SA.out.mono ?_;rintro e w' ⟨rfl,rfl⟩));go_roundw
     case rel=>exact⟨k+1,by go_num,by omega,hid (by rw[qE.out,HN.out];exact wW.out av),hid (HF.out.set (ak.2 rfl) _)⟩
     case measure=>simp[intOf];omega
    ·have XK:=hid (nZ.out.2.2.1 hy (by omega))
     have GB:=hid (nZ.out.2.2.2 hy (by omega));rw[show k - 1=j by omega]at XK GB;rw[hy]at p2;have q1:=US.far (q:=q) (o:=iP s.I k * 4+2) (v:=.int .i64 av) r0 nS;have q2:=US.far (q:=q) (o:=iP s.I k * 4+2) (v:=.int .i64 av) p1' nQ;have q3:=US.off (q:=q) (o:=iP s.I k * 4+2) (v:=.int .i64 av) p4' (by omega);have vI:=hid (fun z=>(wW.out av).Cc hi z);have q5:=(wW.out av).soft (iP s.I k * 4+2) (by omega);have q6:=(wW.out av).c _ hi;rw[xK _ _ _ _ (by rw[HP.out.lC];exact hi),aE rfl]at q6;generalize nth q.K (iP s.I j)=kk at *;generalize iP s.I j=i' at *;generalize iP s.I k=i at *;have wX:(0:Int)<(k:Int):=by omega
     have hkj:(k:Int) - 1=(j:Int):=by omega
     have hjm:(j:Int)<(m:Int):=by omega
     have TH:=hid (Ci kk);clear hy nZ hj;cases hb:(mh kk || kk == 22)
     ·have HN:=hid (GB.out hb)
      rw[hb]at TH;clear XK GB hb;go_wp2_with (first | (go_at_call 193;refine SA.out.mono ?_;rintro e w' ⟨rfl,rfl⟩) | (go_at_call 198;refine(TH.out _).mono ?_;rintro e w' ⟨rfl,rfl⟩));go_roundw
      case rel=>exact⟨k+1,by go_num,by omega,hid (by rw[qE.out,HN.out];exact wW.out av),hid (HF.out.set (ak.2 rfl) _)⟩
      case measure=>simp[intOf];omega
     ·have HN:=hid (XK.out hb)
      rw[hb]at TH;clear XK GB hb;go_wp2_with (first | (go_at_call 193;refine SA.out.mono ?_;rintro e w' ⟨rfl,rfl⟩) | (go_at_call 198;refine(TH.out _).mono ?_;rintro e w' ⟨rfl,rfl⟩));go_roundw
      case rel=>exact⟨k+1,by go_num,by omega,hid (by rw[qE.out,HN.out];have h:=vI.out 13;rw[EP]at h;exact h),hid ((HF.out.set (ak.2 rfl) _).set (ak.2 rfl) _)⟩
      case measure=>simp[intOf];omega
   ·have HN:=hid (nZ.out.1 hy)
    generalize nth N (iP s.I k)=y at *;generalize iP s.I k=i at *;clear hpr;go_wp2;go_roundw
    case rel=>exact⟨k+1,by go_num,by omega,hid (by rw[qE.out,HN.out];exact HP.out),HF⟩
    case measure=>simp[intOf];omega
  ·have hk2:k=m:=by omega
   have Ge:=hid (show US wr q (jD q.K s m C) L by rw[<-hk2];exact HP.out);clear hk2;go_wp2;go_end0;exact⟨rfl,Ge.out,HF.out⟩
theorem I8 (s:Sq)(C:List Int)(k:Nat) :
 (¬ah s C k=DU s C (k+1)->mQ s C k=C) /\
 (ah s C k=DU s C (k+1)->ah s C k=3->(cl s.I C k=4\/cl s.I C k=7)->mQ s C k=put s.I C k 3) /\
 (ah s C k=DU s C (k+1)->ah s C k=6->cl s.I C k=7->mQ s C k=put s.I C k 6) /\
 (¬(ah s C k=3/\(cl s.I C k=4\/cl s.I C k=7))->¬(ah s C k=6/\cl s.I C k=7)->mQ s C k=C):=by
 refine⟨fun h=>?_,fun h h1 h2=>?_,fun h h1 h2=>?_,fun h h1=>?_⟩
 ·rw[mQ,ay (fun h2=>h h2.1)]
 ·rw[mQ,aE ⟨h,.inl ⟨h1,h2⟩⟩,h1]
 ·rw[mQ,aE ⟨h,.inr ⟨h1,h2⟩⟩,h1]
 ·rw[mQ,ay (fun h2=>by rcases h2.2 with h3 | h3;exact h h3;exact h1 h3)]
theorem PB (q:UH)(C L:List Int)(S Q cQ:Nat)(s:Sq)(lv:Int)(w:World)(hu:US w q C L)(hs:SS w q S Q cQ s lv) :
 Calls prog 181 #[.pointer (some ⟨S,0,none⟩)] w fun e w'=>e=.returned (.tuple #[])/\US w' q (ou s s.I.length C) L/\Fr [q.U] w w':=by
 have c0:=hs.c0;have sm:=hs.sm;have HU:=hid hu;have HS:=hid hs;obtain⟨m,hm⟩:∃m,m=s.I.length:=⟨_,rfl⟩;have HM:=hid hm;rw[<-hm]at c0 sm ⊢;clear hu hs hm;go_enter func181,ntmps181;go_wp2;go_loopw [10] (fun a wr=>∃(k:Nat),a=.int .i64 k/\k<=m/\Hid (US wr q (ou s k C) L)/\Hid (Fr [q.U] w wr)) (fun a _=>m - (intOf a).toNat)
 case atStart=>exact⟨0,rfl,aN _,HU,hid (Fr.refl _ _)⟩
 case round =>
  obtain⟨k,rfl,hk,HP,HF⟩:=hrel;by_cases hlt:k<m
  ·obtain⟨hi,p1,p2,p3,p4⟩:=ER HP.out HS.out HF.out (show k<s.I.length by rw[<-HM.out];exact hlt)
   have V8:=hid (HS.out.Ks HF.out);have wW:=hid (fun z=>HP.out.Cc hi z);have HST:=hid (show ou s (k+1) C=mQ s (ou s k C) k from rfl);have nZ:=hid (I8 s (ou s k C) k);have SA:=hid (xQ q _ L S Q cQ s lv k wr HP.out V8.out (by rw[<-HM.out];exact hk));have HAT:=hid (Cl q _ L S Q cQ s lv (k+1) wr HP.out V8.out (by rw[<-HM.out];omega));rw[eA]at HAT;rw[<-HST.out]at nZ;generalize Cn:ou s (k+1) C=N2 at *;have qE:=hid Cn;clear Cn HST p4;generalize ou s k C=N at *;dsimp only[cl,put]at *;generalize ah s N k=av at *;generalize DU s N (k+1)=bv at *;generalize iP s.I k=i at *;generalize nth N i=y at *;have Mf:Hid (Calls prog 194 #[.pointer (some ⟨S,0,none⟩),.int .i64 ((k:Int)+1)] wr fun e w'=>e=.returned (.int .i64 bv)/\w'=wr):=HAT;clear HAT;by_cases hab:av=bv
   ·have hN:=hid (nZ.out.2.2.2)
    by_cases h3:av=3
    ·by_cases hy:y=4\/y=7
     ·have HN:=hid (nZ.out.2.1 hab h3 hy)
      subst h3;subst hab;clear hN nZ
      rcases hy with rfl | rfl
      all_goals (
          go_wp2_with (first | (go_at_call 193;refine SA.out.mono ?_;rintro e w' ⟨rfl,rfl⟩) | (go_at_call 194;refine Mf.out.mono ?_;rintro e w' ⟨rfl,rfl⟩))
          go_roundw
          case rel=>exact⟨k+1,by go_num,by omega,hid (by rw[qE.out,HN.out];exact wW.out 3),hid (HF.out.set (ak.2 rfl) _)⟩
          case measure=>simp[intOf];omega)
     ·have HN:=hid (hN.out (fun h=>hy h.2) (by omega))
      have y4:¬y=4:=fun h=>hy (.inl h)
      have y7:¬y=7:=fun h=>hy (.inr h)
      have y4b:(y == 4)=false:=by simp[y4]
      have y7b:(y == 7)=false:=by simp[y7]
      subst h3;subst hab;clear hN nZ hy;go_wp2_with (first | (go_at_call 193;refine SA.out.mono ?_;rintro e w' ⟨rfl,rfl⟩) | (go_at_call 194;refine Mf.out.mono ?_;rintro e w' ⟨rfl,rfl⟩));go_roundw
      case rel=>exact⟨k+1,by go_num,by omega,hid (by rw[qE.out,HN.out];exact HP.out),HF⟩
      case measure=>simp[intOf];omega
    ·by_cases h6:av=6
     ·by_cases hy:y=7
      ·have HN:=hid (nZ.out.2.2.1 hab h6 hy)
       subst h6;subst hab;subst hy;clear hN nZ h3;go_wp2_with (first | (go_at_call 193;refine SA.out.mono ?_;rintro e w' ⟨rfl,rfl⟩) | (go_at_call 194;refine Mf.out.mono ?_;rintro e w' ⟨rfl,rfl⟩));go_roundw
       case rel=>exact⟨k+1,by go_num,by omega,hid (by rw[qE.out,HN.out];exact wW.out 6),hid (HF.out.set (ak.2 rfl) _)⟩
       case measure=>simp[intOf];omega
      ·have HN:=hid (hN.out (fun h=>h3 h.1) (fun h=>hy h.2))
       have y7b:(y == 7)=false:=by simp[hy]
       subst h6;subst hab;clear hN nZ h3;go_wp2_with (first | (go_at_call 193;refine SA.out.mono ?_;rintro e w' ⟨rfl,rfl⟩) | (go_at_call 194;refine Mf.out.mono ?_;rintro e w' ⟨rfl,rfl⟩));go_roundw
       case rel=>exact⟨k+1,by go_num,by omega,hid (by rw[qE.out,HN.out];exact HP.out),HF⟩
       case measure=>simp[intOf];omega
     ·have HN:=hid (hN.out (fun h=>h3 h.1) (fun h=>h6 h.1))
      subst hab;clear hN nZ;go_wp2_with (first | (go_at_call 193;refine SA.out.mono ?_;rintro e w' ⟨rfl,rfl⟩) | (go_at_call 194;refine Mf.out.mono ?_;rintro e w' ⟨rfl,rfl⟩));go_roundw
      case rel=>exact⟨k+1,by go_num,by omega,hid (by rw[qE.out,HN.out];exact HP.out),HF⟩
      case measure=>simp[intOf];omega
   ·have HN:=hid (nZ.out.1 hab)
    clear nZ;go_wp2_with (first | (go_at_call 193;refine SA.out.mono ?_;rintro e w' ⟨rfl,rfl⟩) | (go_at_call 194;refine Mf.out.mono ?_;rintro e w' ⟨rfl,rfl⟩));go_roundw
    case rel=>exact⟨k+1,by go_num,by omega,hid (by rw[qE.out,HN.out];exact HP.out),HF⟩
    case measure=>simp[intOf];omega
  ·have hk2:k=m:=by omega
   have Ge:=hid (show US wr q (ou s m C) L by rw[<-hk2];exact HP.out);clear hk2;go_wp2;go_end0;exact⟨rfl,Ge.out,HF.out⟩
theorem uS (K:List Int)(I:List Nat)(v:Int)(f j:Nat)(C:List Int) :
 (j<I.length->cl I K j=8->oK K I v (f+1) j C=oK K I v f (j+1) (put I C j v))/\(j<I.length->¬cl I K j=8->oK K I v f j C=C)/\(I.length<=j->oK K I v f j C=C):=by
 refine⟨fun h h1=>?_,fun h h1=>?_,fun h=>?_⟩
 ·rw[oK,aE ⟨h,h1⟩]
 ·cases f with
  | zero=>rfl
  | succ f=>rw[oK,ay (fun h2=>h1 h2.2)]
 ·cases f with
  | zero=>rfl
  | succ f=>rw[oK,ay (fun h2=>by omega)]
theorem GC (q:UH)(C L:List Int)(S Q cQ:Nat)(s:Sq)(lv:Int)(k:Nat)(v:Int)(w:World)(hu:US w q C L)(hs:SS w q S Q cQ s lv)(hk:k<s.I.length) :
 Calls prog 217 #[.pointer (some ⟨S,0,none⟩),.int .i64 k,.int .i64 v] w fun e w'=>e=.returned (.tuple #[])/\US w' q (become q.K s.I k v C) L/\Fr [q.U] w w':=by
 have c0:=hs.c0;have sm:=hs.sm;have cp:=hs.cp;have nS:=hs.ne.1;have nQ:=hs.ne.2;obtain⟨hi0,p1,p2,p3,p4⟩:=ER hu hs (Fr.refl _ _) hk;have HU0:=hid (hu.Cc hi0 v);have Sw:=hid (jT w q.U (iP s.I k * 4+2) (.int .i64 v));have HS:=hid hs;have c0':=US.far (q:=q) (o:=iP s.I k * 4+2) (v:=.int .i64 v) c0 nS;obtain⟨Z,hZ⟩:∃Z,Z=become q.K s.I k v C:=⟨_,rfl⟩;have HZ:=hid (show Z=oK q.K s.I v s.I.length (k+1) (put s.I C k v)from hZ);rw[<-hZ];obtain⟨m,hm⟩:∃m,m=s.I.length:=⟨_,rfl⟩;have HM:=hid hm;rw[<-hm]at c0 c0' sm hk cp;dsimp only[put]at HZ;generalize iP s.I k=i0 at *;obtain⟨d,hd⟩:∃d,m - (k+1)=d:=⟨_,rfl⟩;have HD:=hid (show m=k+1+d by omega);have hdm:d<=1000000:=by omega
 have hI1:(k:Int)+1<=(m:Int):=by omega
 have hI2:(k:Int)+1<=(cQ:Int):=by omega
 have hm0:0<m:=by omega
 clear hu hs hm hZ;by_cases hca:cQ=k+1
 ·have HZ2:=hid (show Z=C.set i0 v by rw[HZ.out];exact(uS q.K s.I v _ _ _).2.2 (by rw[<-HM.out];omega))
  have HDZ:=hid (show d=0 by have:=HD.out;omega);go_enter func217,ntmps217;go_wp2;go_loopw [26] (fun x wr=>x=.int .i64 0/\wr=w.setCell ⟨q.U,i0 * 4+2,none⟩ (.int .i64 v)) (fun _ _=>0)
  case atStart=>exact⟨rfl,rfl⟩
  case round =>
   obtain⟨rfl,rfl⟩:=hrel;have hdz:=HDZ.out;subst hdz;go_wp2;go_end0;exact⟨rfl,by rw[HZ2.out];exact HU0.out,Sw.out⟩
 ·go_enter func217,ntmps217
  go_wp2;clear hca hd c0 c0' p1 p2 p3 p4;go_loopw [26] (fun x wr=>∃(t f:Nat) (N:List Int),x=.int .i64 t/\t<=d/\Hid (Z=oK q.K s.I v f (k+1+t) N)/\Hid (d<=t+f)/\Hid (US wr q N L)/\Hid (Fr [q.U] w wr)) (fun x _=>d - (intOf x).toNat)
  case atStart=>exact⟨0,s.I.length,_,rfl,aN _,HZ,hid (by rw[<-HM.out];have:=HD.out;omega),HU0,Sw⟩
  case round =>
   obtain⟨t,f,N,rfl,ht,HZT,HTF,HP,HF⟩:=hrel;by_cases hlt:t<d
   ·obtain⟨f',rfl⟩:∃f',f=f'+1:=⟨f - 1,by have:=HTF.out;omega⟩
    obtain⟨hi,e1,e2,e3,e4⟩:=ER HP.out HS.out HF.out (show k+1+t<s.I.length by rw[<-HM.out];have:=HD.out;omega);have wW:=hid (fun z=>HP.out.Cc hi z);have PC:=hid (uS q.K s.I v f' (k+1+t) N);have TI:=hid (uS q.K s.I v (f'+1) (k+1+t) N);have hkl:k+1+t<s.I.length:=by rw[<-HM.out];have:=HD.out;omega
    have vJ:=hid hkl;have E0:=hid hlt;dsimp only[cl,put]at PC TI;generalize iP s.I (k+1+t)=i at *;generalize nth q.K i=y at *;generalize nth N i=z at *;by_cases hy:y=8
    ·have CC:=hid (show Z=oK q.K s.I v f' (k+1+(t+1)) (N.set i v) by rw[HZT.out];exact PC.out.1 vJ.out hy)
     subst hy;clear PC TI hkl;go_wp2;go_roundw
     case rel=>exact⟨t+1,f',_,by go_num,by have:=E0.out;omega,CC,hid (by have:=HTF.out;omega),hid (wW.out v),hid (HF.out.set (ak.2 rfl) _)⟩
     case measure=>have:=E0.out;simp[intOf];omega
    ·have CC:=hid (show Z=N by rw[HZT.out];exact TI.out.2.1 vJ.out hy)
     clear PC TI hkl;go_wp2
     (try simp only[Exit.inBlock,Exit.then])
     refine fE (iA rfl _ _ _) rfl ?_;exact⟨rfl,by rw[CC.out];exact HP.out,HF.out⟩
   ·have CC:=hid (show Z=N by rw[HZT.out];exact(uS q.K s.I v f (k+1+t) N).2.2 (by rw[<-HM.out];have:=HD.out;omega))
    have hti:¬(t:Int)<(d:Int):=by omega
    go_wp2;go_end0;exact⟨rfl,by rw[CC.out];exact HP.out,HF.out⟩
theorem PD (q:UH)(C L:List Int)(S Q cQ:Nat)(s:Sq)(lv:Int)(a b:Nat)(v:Int)(w:World)(hu:US w q C L)(hs:SS w q S Q cQ s lv)(ha:a<s.I.length)(hb:b<s.I.length) :
 Calls prog 189 #[.pointer (some ⟨S,0,none⟩),.int .i64 a,.int .i64 b,.int .i64 v] w fun e w'=>e=.returned (.tuple #[])/\US w' q (become q.K s.I b v (become q.K s.I a v C)) L/\Fr [q.U] w w':=by
 have H1:=hid (GC q C L S Q cQ s lv a v w hu hs ha);have H2:=hid (fun w' hu' hs'=>GC q (become q.K s.I a v C) L S Q cQ s lv b v w' hu' hs' hb);have HS:=hid hs;clear hu hs;go_enter func189,ntmps189;go_wp2_with fail;refine H1.out.mono ?_;rintro e w1 ⟨rfl,hu1,hf1⟩;have H3:=hid (H2.out w1 hu1 (HS.out.Ks hf1));have jc:=hid hf1;clear hu1 hf1 H1 H2;go_wp2_with fail;refine H3.out.mono ?_;rintro e w2 ⟨rfl,hu2,hf2⟩;have zk:=hid hu2;have i_:=hid (jc.out.trans hf2);clear hu2 hf2;go_wp2;go_end0;exact⟨rfl,zk.out,i_.out⟩
theorem E4 (l:List Int)(i:Nat):l.set i (nth l i)=l:=by
 refine xH (by simp) (fun j hj=>?_);rw[p9];split
 ·next h=>rw[h.1]
 ·rfl
theorem I9 (lv c:Int):(lv % 2=0->(c=3\/c=6)->lift lv c=2)/\(¬(lv % 2=0/\(c=3\/c=6))->¬c=way lv->lift lv c=1)/\(¬(lv % 2=0/\(c=3\/c=6))->c=way lv->lift lv c=0):=by
 refine⟨fun h h1=>?_,fun h h1=>?_,fun h h1=>?_⟩
 ·rw[lift,aE ⟨h,h1⟩]
 ·rw[lift,ay h,aE h1]
 ·rw[lift,ay h,ay (by simpa using h1)]
theorem PE (q:UH)(C L:List Int)(S Q cQ:Nat)(s:Sq)(lv:Int)(w:World)(hu:US w q C L)(hs:SS w q S Q cQ s lv)(hl0:0<=lv)(hinj:inj s.I)(hL:∀i,0<=nth L i/\nth L i<=1000) :
 Calls prog 142 #[.pointer (some ⟨S,0,none⟩)] w fun e w'=>e=.returned (.tuple #[])/\US w' q C (l6 s.I lv C s.I.length L)/\Fr [q.U] w w':=by
 have c0:=hs.c0;have sm:=hs.sm;have HU:=hid hu;have HS:=hid hs;have HL:=hid hL;have Sy:=hid (fun k (hk:k<=s.I.length)=>EK hinj (L:=L) (fun j hj=>by rw[hu.lL];exact hs.lt j hj) lv C k hk);obtain⟨m,hm⟩:∃m,m=s.I.length:=⟨_,rfl⟩;have HM:=hid hm;rw[<-hm]at c0 sm ⊢;clear hu hs hm hL hinj;go_enter func142,ntmps142;go_wp2;go_loopw [10] (fun a wr=>∃(k:Nat),a=.int .i64 k/\k<=m/\Hid (US wr q C (l6 s.I lv C k L))/\Hid (Fr [q.U] w wr)) (fun a _=>m - (intOf a).toNat)
 case atStart=>exact⟨0,rfl,aN _,HU,hid (Fr.refl _ _)⟩
 case round =>
  obtain⟨k,rfl,hk,HP,HF⟩:=hrel;by_cases hlt:k<m
  ·obtain⟨hi,p1,p2,p3,p4⟩:=ER HP.out HS.out HF.out (show k<s.I.length by rw[<-HM.out];exact hlt)
   have V8:=hid (HS.out.Ks HF.out);have r1:=V8.out.c1;have p5:=HP.out.l _ hi;have p6:=HP.out.soft (iP s.I k * 4+3) (by omega);have HSL:=hid (fun z=>HP.out.LN hi z);have HST:=hid (show l6 s.I lv C (k+1) L=put s.I (l6 s.I lv C k L) k (cl s.I (l6 s.I lv C k L) k+lift lv (cl s.I C k))from rfl);have hlow:=(Sy.out k (by rw[<-HM.out];exact hk)).2 k (au _) (by rw[<-HM.out];exact hlt);have hbd:=HL.out (iP s.I k);dsimp only[cl,put]at HST hlow;rw[<-hlow]at hbd;have Ea:=hid (fun(w':World) (hf:Fr [q.U] wr w')=>Cm q S Q cQ s lv w' (V8.out.Ks hf) hl0);generalize Cn:l6 s.I lv C (k+1) L=N2 at *;have qE:=hid Cn;clear Cn p4 hlow;generalize l6 s.I lv C k L=N at *;generalize iP s.I k=i at *;have Zz:=hid (I9 lv (nth C i));generalize nth C i=y at *;have aaF:=hid (show N.set i (nth N i)=N from E4 N i);generalize nth N i=z at *;generalize lift lv y=lf at *;have HG:=hid (fun(x:Int) (h:lf=x)=>(show N2=N.set i (z+x) by rw[HST.out,h]));have hr:lv % 2=0\/lv % 2=1:=by omega
   have HWY:=hid (show way lv=if lv % 2=1 then 1 else 0 from rfl);clear HST;by_cases hn:y=3\/y=6
   ·rcases hr with h0 | h0
    ·have HN:=hid (HG.out 2 (Zz.out.1 h0 hn))
     rcases hn with rfl | rfl
     all_goals (
      go_wp2
      go_roundw
      case rel=>exact⟨k+1,by go_num,by omega,hid (by rw[qE.out,HN.out];exact HSL.out _),hid (HF.out.set (ak.2 rfl) _)⟩
      case measure=>simp[intOf];omega)
    ·have HWV:=hid (show way lv=1 by rw[HWY.out,aE h0])
     have HN:=hid (HG.out 1 (Zz.out.2.1 (by omega) (by rw[HWV.out];omega)));rw[HWV.out]at Ea
     rcases hn with rfl | rfl
     all_goals (
      go_wp2
      go_quiet (first | (go_at_call 188;exact Calls.quiet_of (Ea.out _ ((Fr.refl [q.U] wr).drewN _))))
      go_wp2
      go_roundw
      case rel=>exact⟨k+1,by go_num,by omega,hid (by rw[qE.out,HN.out];exact(HSL.out _).fr (T:=[]) (s_ _ _ _ rfl rfl rfl rfl) aj),hid ((HF.out.set (ak.2 rfl) _).trans (s_ _ _ _ rfl rfl rfl rfl))⟩
      case measure=>simp[intOf];omega)
   ·have y3:¬y=3:=fun h=>hn (.inl h)
    have y6:¬y=6:=fun h=>hn (.inr h)
    have y3b:(y == 3)=false:=by simp[y3]
    have y6b:(y == 6)=false:=by simp[y6]
    generalize way lv=wl at *;by_cases hw:y=wl
    ·have HN:=hid (HG.out 0 (Zz.out.2.2 (fun h=>hn h.2) hw))
     subst hw;clear hn
     rcases hr with h0 | h0
     all_goals (
      go_wp2
      go_quiet (first | (go_at_call 188;exact Calls.quiet_of (Ea.out _ ((Fr.refl [q.U] wr).drewN _))))
      go_wp2
      go_roundw
      case rel=>exact⟨k+1,by go_num,by omega,hid (by rw[qE.out,HN.out,Int.add_zero,aaF.out];exact HP.out.fr (T:=[]) (s_ _ _ _ rfl rfl rfl rfl) aj),hid (HF.out.trans (s_ _ _ _ rfl rfl rfl rfl))⟩
      case measure=>simp[intOf];omega)
    ·have HN:=hid (HG.out 1 (Zz.out.2.1 (fun h=>hn h.2) hw))
     have hwb:(y == wl)=false:=by simp[hw]
     clear hn
     rcases hr with h0 | h0
     all_goals (
      go_wp2
      go_quiet (first | (go_at_call 188;exact Calls.quiet_of (Ea.out _ ((Fr.refl [q.U] wr).drewN _))))
      go_wp2
      go_roundw
      case rel=>exact⟨k+1,by go_num,by omega,hid (by rw[qE.out,HN.out];exact(HSL.out _).fr (T:=[]) (s_ _ _ _ rfl rfl rfl rfl) aj),hid ((HF.out.set (ak.2 rfl) _).trans (s_ _ _ _ rfl rfl rfl rfl))⟩
      case measure=>simp[intOf];omega)
  ·have hk2:k=m:=by omega
   have Ge:=hid (show US wr q C (l6 s.I lv C m L) by rw[<-hk2];exact HP.out);clear hk2;go_wp2;go_end0;exact⟨rfl,Ge.out,HF.out⟩
theorem TJ {K:List Int}{s:Sq}{C:List Int}(hb:s.kE=0\/s.kE=1)(hw:within s.I C)(h:Among S0 s.I C s.I.length) :
 (jV s.I true 0 0 s.I.length (s.kE,kA s.I s.I.length (scan s.I ED (qz s) (ou s s.I.length (pJ s.I s.I.length (jV s.I true 2 6 s.I.length (s.kE,jD K s s.I.length C)).2))))).2=weak K s C:=by
 have h1:=(EF (K:=K) hb hw h s.I.length (au _)).2;have l1:=pV K s C s.I.length;have h2:=BL (P:=S1) (al:=true) (letter:=2) (v:=6) ⟨by unfold S0;omega,by omega⟩ (q:=(s.kE,jD K s s.I.length C)) h1 s.I.length;have l2:=qY s.I true 2 6 (s.kE,jD K s s.I.length C) s.I.length;have h3:=(W8 (hw.of (by rw[l2];exact l1)) h2 s.I.length (au _)).2;have l3:=yR s.I (jV s.I true 2 6 s.I.length (s.kE,jD K s s.I.length C)).2 s.I.length;have h4:=Ox h3 s.I.length;have l4:=xB s (pJ s.I s.I.length (jV s.I true 2 6 s.I.length (s.kE,jD K s s.I.length C)).2) s.I.length;have h5:=Z7 h4;have l5:=Iw s (ou s s.I.length (pJ s.I s.I.length (jV s.I true 2 6 s.I.length (s.kE,jD K s s.I.length C)).2));have h6:=(EG (hw.of (by rw[l5,l4,l3,l2];exact l1)) h5 s.I.length (au _)).2;unfold weak;rw[Kc (by decide) (h6.mono (fun c hc=>hc.1.2)) s.I.length (au _)]
theorem PF (q:UH)(C L:List Int)(S Q cQ:Nat)(s:Sq)(lv:Int)(w:World)(hu:US w q C L)(hs:SS w q S Q cQ s lv)(hb:s.kE=0\/s.kE=1)(h0:Among S0 s.I C s.I.length)
 (term:∀(C:List Int) (w:World),US w q C L->SS w q S Q cQ s lv->Calls prog 182 #[.pointer (some ⟨S,0,none⟩)] w fun e w'=>e=.returned (.tuple #[])/\US w' q (scan s.I ED (qz s) C) L/\Fr [q.U] w w') :
 Calls prog 139 #[.pointer (some ⟨S,0,none⟩)] w fun e w'=>e=.returned (.tuple #[])/\US w' q (weak q.K s C) L/\Fr [q.U] w w':=by
 have HS:=hid hs;have HW:=hid (TJ (K:=q.K) hb (fun k hk=>by rw[hu.lC];exact hs.lt k hk) h0);have HT:=hid term;have H1:=hid (PA q C L S Q cQ s lv w hu hs);generalize weak q.K s C=Z at *;clear hu hs hb h0 term;go_enter func139,ntmps139;go_wp2_with fail;refine H1.out.mono ?_;rintro e w1 ⟨rfl,hu1,hf1⟩;have H2:=hid (Gg q _ L S Q cQ s lv 2 6 w1 hu1 (HS.out.Ks hf1));have jc:=hid hf1;clear hu1 hf1 H1;go_wp2_with fail;refine H2.out.mono ?_;rintro e w2 ⟨rfl,hu2,hf2⟩;have i_:=hid (jc.out.trans hf2);have H3:=hid (Pe q _ L S Q cQ s lv w2 hu2 (HS.out.Ks i_.out));clear hu2 hf2 H2;go_wp2_with fail;refine H3.out.mono ?_;rintro e w3 ⟨rfl,hu3,hf3⟩;have jQ:=hid (i_.out.trans hf3);have H4:=hid (PB q _ L S Q cQ s lv w3 hu3 (HS.out.Ks jQ.out));clear hu3 hf3 H3;go_wp2_with fail;refine H4.out.mono ?_;rintro e w4 ⟨rfl,hu4,jG⟩;have jI:=hid (jQ.out.trans jG);have H5:=hid (HT.out _ w4 hu4 (HS.out.Ks jI.out));clear hu4 jG H4;go_wp2_with fail;refine H5.out.mono ?_;rintro e w5 ⟨rfl,V9,kK⟩;have pF:=hid (jI.out.trans kK);have H6:=hid (Pf q _ L S Q cQ s lv w5 V9 (HS.out.Ks pF.out));clear V9 kK H5;go_wp2_with fail;refine H6.out.mono ?_;rintro e w6 ⟨rfl,hu6,jJ⟩;have zl:=hid (pF.out.trans jJ);have H7:=hid (Gg q _ L S Q cQ s lv 0 0 w6 hu6 (HS.out.Ks zl.out));rw[HW.out]at H7;clear hu6 jJ H6;go_wp2_with fail;refine H7.out.mono ?_;rintro e w7 ⟨rfl,hu7,I_⟩;have HU7:=hid hu7;have TK:=hid (zl.out.trans I_);clear hu7 I_;go_wp2;go_end0;exact⟨rfl,HU7.out,TK.out⟩
theorem PG (s:ByteArray)(b:Int)(w:World)(hs:s.size<=400)(hb:b=0\/b=1\/b=2) :
 Calls prog 83 #[.string s,.int .i64 b] w fun e w'=>e=.returned .nilIface/\w'=w:=by
 have hsI:(s.size:Int)<=400:=by omega
 have hd1:decide ((400:Int)<(s.size:Int))=false:=bS (by omega);have hd2:decide (400<s.size)=false:=bS (by omega)
 rcases hb with rfl | rfl | rfl
 all_goals
  go_enter func83,ntmps83;go_wp2;go_ret;exact⟨rfl,rfl⟩
end Go.Proofs.YtnakejhohdbfdacGreatDoor
namespace Go.Proofs.YtnakejhohdbfdacGreatDoor.As
open Go.RowKit Go.Extern.Stop Go.Stop Go.Extern Go.Proofs.Tryz
abbrev ty (t:Nat):Value:=.pointer (some ⟨10,t,none⟩)
abbrev rty (t:Nat):Value:=.iface 230 (.agg #[ty t])
abbrev vv (t:Nat)(a:Addr):Value:=.agg #[ty t,.pointer (some a),.int .u64 406]
def w1 (w:World)(t:Addr):World:=w.alloc (.cells #[.pointer (some t)] 119)
def w2 (w:World)(t:Addr):World:=(w1 w t).alloc (.cells #[ty 119,.pointer (some ⟨w.heap.size,0,none⟩),.int .u64 150] 183)
def w3 (w:World)(t:Addr):World:=(w2 w t).alloc (.cells #[ty 119,.pointer (some ⟨w.heap.size,0,none⟩),.int .u64 150] 183)
def w4 (w:World)(e t:Addr):World:=((w3 w t).alloc (.cells #[.pointer (some e)] 117)).setCell t (.pointer (some e))
end Go.Proofs.YtnakejhohdbfdacGreatDoor.As
namespace Go.Proofs.YtnakejhohdbfdacGreatDoor
open Go.RowKit j9 Go.Proofs.Tryz
open Lay pS
structure Floor (w:World):Prop where
 t3:Cls.TabAt w 1 jg.jv
 t4:Cls.TabAt w 2 jg.jh
 t9:Cls.TabAt w 0 jg.jr
 e0:w.cell? ⟨3,0,none⟩=some (As.rty 71)
theorem Floor.fr {w w':World}(h:Floor w)(hf:Fr [] w w'):Floor w' :=
 ⟨lB h.t3 hf,lB h.t4 hf,lB h.t9 hf,hf.cell h.e0 aj⟩
theorem Ah {s:ByteArray}{n:Nat}(h:Dec.Ends s n):iP (jd s n) ((jd s n).length - 2)<=n/\nth (bnd s n) ((bnd s n).length - 2)=((Dec.pos s (iP (jd s n) ((jd s n).length - 2)):Nat):Int):=by
 have hl:=jA s n;refine⟨?_,?_⟩
 ·rcases aH (show(jd s n).length - 2<=cn s n by rw[cn];omega)with h1 | h1
  ·have:=qN (lI s n) h1 (by rw[cn];omega);rw[lE]at this;omega
  ·rw[h1,lE];exact au _
 ·rw[lJ h];exact nk h (by omega)
theorem PI {s:ByteArray}{n:Nat}{b:Int}{W Br:List Int}(h:Dec.Ends s n)(hs:s.size<=400)(hb:b=0\/b=1\/b=2):Tm s n (zY s n) b W Br=if okW W n=false then 3 else if Lay.nX (bnd s n) s.size Br Br.length=false then 4 else if Me (zY s n) (iP (jd s n) ((jd s n).length - 2))=true then 5 else 0:=by
 have h2:=Ah h;rw[Tm,ay (by omega),ay (by omega),h2.2,CA (Dec.kR s),show min n (iP (jd s n) ((jd s n).length - 2))=iP (jd s n) ((jd s n).length - 2) by have:=h2.1;omega];unfold okW;by_cases h1:W.length=n
 ·cases h3:Lay.Zu W n
  ·rw[aE (.inr rfl),aE (by simp)]
  ·rw[ay (show ¬(W.length≠n\/true=false) by simp[h1]),ay (show ¬((decide (W.length=n) && true)=false) by simp[h1])]
 ·rw[aE (.inl h1),aE (by simp[h1])]
end Go.Proofs.YtnakejhohdbfdacGreatDoor
namespace Go.Proofs.YtnakejhohdbfdacGreatDoor
open Go.RowKit j9 Lay Go.Proofs.Tryz
end Go.Proofs.YtnakejhohdbfdacGreatDoor
namespace Go.Proofs.YtnakejhohdbfdacGreatDoor
open Go.RowKit j9 Go.Proofs.Tryz
structure RW (W wr:World)(v:Value)(rs:List (List Nat))(hs:List Value)(B:Nat):Prop where
 fr:Fr [] W wr
 own:wr.ownsRow W.heap.size 32 1 v rs.length hs
 b0:W.heap.size<=B/\B<=wr.heap.size
 old:∀j,j+1<rs.length->∃g c,hs[j]?=some (.slice (some ⟨g,0,none⟩) (run rs j).length c)/\g<B/\wr.ownsRow W.heap.size 3 1 (.slice (some ⟨g,0,none⟩) (run rs j).length c) (run rs j).length (jk (run rs j))
 last:∀j,j+1=rs.length->∃g c,hs[j]?=some (.slice (some ⟨g,0,none⟩) (run rs j).length c)/\wr.ownsRow B 3 1 (.slice (some ⟨g,0,none⟩) (run rs j).length c) (run rs j).length (jk (run rs j))
 nl:rs.length=0->v=.slice none 0 0
theorem RW.oN {W wr w':World}{v:Value}{rs:List (List Nat)}{hs:List Value}{B:Nat}(h:RW W wr v rs hs B)(hf:Fr [] wr w'):RW W w' v rs hs B :=
 ⟨h.fr.trans hf,iM h.own hf,⟨h.b0.1,aK h.b0.2 hf.size⟩,
  fun j hj=>by obtain⟨g,c,a1,a2,a3⟩:=h.old j hj;exact⟨g,c,a1,a2,iM a3 hf⟩,
  fun j hj=>by obtain⟨g,c,a1,a2⟩:=h.last j hj;exact⟨g,c,a1,iM a2 hf⟩,h.nl⟩
theorem RW.start (W:World):RW W W (.slice none 0 0) [] [] W.heap.size :=
 ⟨Fr.refl _ _,fQ _ _ _ _,⟨au _,au _⟩,fun j h=>absurd h (by simp),fun j h=>absurd h (by simp),fun _=>rfl⟩
theorem RW.len {W wr:World}{v:Value}{rs:List (List Nat)}{hs:List Value}{B:Nat}(h:RW W wr v rs hs B):hs.length=rs.length:=by have:=h.own.1;omega
theorem run_set {rs:List (List Nat)}{m:Nat}(hm:m<rs.length)(r:List Nat)(j:Nat):run (rs.set m r) j=if j=m then r else run rs j:=by
 unfold run;by_cases h:j=m
 ·subst h;rw[bn hm,aE rfl];rfl
 ·rw[bJ (fun e=>h e.symm),ay h]
theorem tW (rs:List (List Nat))(r:List Nat)(j:Nat)(hj:j<=rs.length):run (rs++[r]) j=if j=rs.length then r else run rs j:=by
 unfold run;by_cases h:j=rs.length
 ·subst h;rw[aE rfl];simp
 ·rw[ay h,aJ (by omega)]
theorem RW.grow {W wr w1 w2:World}{rs:List (List Nat)}{hs:List Value}{B n m o cap g c l i:Nat}{r:List Nat}{v':Value}(h:RW W wr (.slice (some ⟨o,0,none⟩) n cap) rs hs B)(hn:n=rs.length)(hm:n=m+1)
 (ho0:wr.ownsRow B 3 1 (.slice (some ⟨g,0,none⟩) l c) l (jk r)) (hl:l=r.length) (hf:Fr [] wr w1)
 (ho:w2.ownsRow B 3 1 v' (l+1) (jk r++[.int .i64 (i:Nat)])) (hg:w1.grownBy w2 (some g)):RW W (w2.setCell ⟨o,m,none⟩ v') (.slice (some ⟨o,0,none⟩) n cap) (rs.set m (r++[i])) (hs.set m v') B:=by
 have h1:=h.oN hf;have hB:=(ji ho0).1;have hml:m<rs.length:=by omega
 have hao:o≠g:=j7 h1.own (iM ho0 hf) (by decide) rfl rfl;have hown:=h1.own;rw[<-hn]at hown;have hown2:=jP hown hg (fun x hx e=>hao (by cases hx;cases e;rfl));obtain⟨hst,hgr⟩:=hown2.stored m v';have hfo:W.heap.size<=o:=(ji hown).1;have hvs:=iQ (by omega) ho;obtain⟨g',c',rfl⟩:=hvs;have XL:o≠g':=j7 hown2 ho (by decide) rfl rfl;refine⟨(h1.fr.grown hg (fun k e=>by cases e;have:=h1.b0.1;omega)).grown hgr (fun k e=>by cases e;exact hfo),?_,⟨h1.b0.1,?_⟩,fun j hj=>?_,fun j hj=>?_,fun h0=>?_⟩
 ·rw[bK,<-hn];exact hst
 ·have:=h1.b0.2;have:=hg.size;have:=hgr.size;omega
 ·rw[bK]at hj
  obtain⟨gj,cj,a1,a2,a3⟩:=h1.old j hj;refine⟨gj,cj,?_,a2,?_⟩
  ·rw[run_set hml,ay (by omega),bJ (by omega)];exact a1
  ·rw[run_set hml,ay (by omega)]
   have hoj:o≠gj:=j7 h1.own a3 (by decide) rfl rfl;exact jP (jP a3 hg (fun x hx e=>by cases hx;have:gj=g:=aZ e;omega)) hgr (fun x hx e=>by cases hx;cases e;exact hoj rfl)
 ·rw[bK]at hj
  have hjm:j=m:=by omega
  subst hjm;refine⟨g',c',?_,?_⟩
  ·rw[bn (by rw[h.len];omega),run_set hml,aE rfl,aD,hl];rfl
  ·rw[run_set hml,aE rfl,aD,<-sM]
   rw[hl]at ho;exact jP ho hgr (fun x hx e=>by cases hx;cases e;exact XL rfl)
 ·rw[bK]at h0;omega
theorem RW.new {W wr w2 w3:World}{v v':Value}{rs:List (List Nat)}{hs:List Value}{B b l c:Nat}{r:List Nat}(h:RW W wr v rs hs B)(hf:Fr [] wr w2)(hl:l=r.length)(hb:w2.ownsRow wr.heap.size 3 1 (.slice (some ⟨b,0,none⟩) l c) l (jk r))
 (ho:w3.ownsRow W.heap.size 32 1 v' (rs.length+1) (hs++[.slice (some ⟨b,0,none⟩) l c])) (hg:w2.grownBy w3 v.ownBlock):RW W w3 v' (rs++[r]) (hs++[.slice (some ⟨b,0,none⟩) l c]) wr.heap.size:=by
 have h1:=h.oN hf;refine⟨h1.fr.grown hg (fun k e=>(h1.own.lt k e).1),?_,⟨aK h.b0.1 h.b0.2,?_⟩,fun j hj=>?_,fun j hj=>?_,fun h0=>?_⟩
 ·rw[aD];exact ho
 ·have:=hf.size;have:=hg.size;omega
 ·rw[aD]at hj
  simp only[bq]at hj;rw[tW _ _ _ (by omega),ay (by omega),aJ (by rw[h.len];omega)]
  rcases cH (j+1) rs.length with hlt | hge
  ·obtain⟨gj,cj,a1,a2,a3⟩:=h1.old j hlt
   exact⟨gj,cj,a1,by have:=h.b0.2;omega,jP a3 hg (fun x hx e=>j7 a3 h1.own (by decide) hx e.symm rfl)⟩
  ·obtain⟨gj,cj,a1,a2⟩:=h1.last j (by omega)
   obtain⟨gk,ck,b1,b2⟩:=h.last j (by omega);rw[a1]at b1;cases b1;exact⟨gj,cj,a1,(ji b2).2,jP (iU a2 h.b0.1) hg (fun x hx e=>j7 a2 h1.own (by decide) hx e.symm rfl)⟩
 ·rw[aD]at hj
  simp only[bq]at hj;have hje:j=rs.length:=by omega
  subst hje;rw[tW _ _ _ (by omega),aE rfl];subst hl;refine⟨b,c,by rw[<-h.len];simp,jP hb hg (fun x hx e=>j7 hb h1.own (by decide) hx e.symm rfl)⟩
 ·simp at h0
def E5 (w:World)(B:Nat)(v:Value)(rs:List (List Nat)):Prop :=
 (rs.length=0->v=.slice none 0 0)/\(0<rs.length->∃o cap,v=.slice (some ⟨o,0,none⟩) rs.length cap/\B<=o) /\
 ∀o cap,v=.slice (some ⟨o,0,none⟩) rs.length cap->∀j,j<rs.length->∃g c,w.cell? ⟨o,j,none⟩=some (.slice (some ⟨g,0,none⟩) (run rs j).length c)/\B<=g/\w.ownsRow B 3 1 (.slice (some ⟨g,0,none⟩) (run rs j).length c) (run rs j).length (jk (run rs j))
theorem RW.rows {W wr:World}{v:Value}{rs:List (List Nat)}{hs:List Value}{B:Nat}(h:RW W wr v rs hs B):E5 wr W.heap.size v rs:=by
 refine⟨h.nl,fun hp=>?_,fun o cap hv j hj=>?_⟩
 ·obtain⟨o,cap,rfl⟩:=iQ hp h.own
  exact⟨o,cap,rfl,(ji h.own).1⟩
 ·subst hv
  have hc:=h.own.cellAt j (by omega)
  rcases cH (j+1) rs.length with hlt | hge
  ·obtain⟨g,c,a1,a2,a3⟩:=h.old j hlt
   exact⟨g,c,by rw[hc,a1],(ji a3).1,a3⟩
  ·obtain⟨g,c,a1,a2⟩:=h.last j (by omega)
   have:=iU a2 h.b0.1;exact⟨g,c,by rw[hc,a1],(ji this).1,this⟩
theorem Mg (K L:List Int)(i:Nat)(rs:List (List Nat)) :
 (gone (nth K i)=true->oh K L i rs=rs) /\
 (gone (nth K i)=false->rs.length=0->oh K L i rs=rs++[[i]]) /\
 (∀m,gone (nth K i)=false->rs.length=m+1->nth L (jw (run rs m))=nth L i->oh K L i rs=rs.set m (run rs m++[i])) /\
 (∀m,gone (nth K i)=false->rs.length=m+1->¬nth L (jw (run rs m))=nth L i->oh K L i rs=rs++[[i]]):=by
 refine⟨fun h=>?_,fun h h0=>?_,fun m h h0 h1=>?_,fun m h h0 h1=>?_⟩
 ·rw[oh,aE h]
 ·have:rs=[]:=dY.1 h0
  subst this;rw[oh,ay (by rw[h];exact aG),aE rfl];rfl
 ·have hne:rs≠[]:=by intro e;subst e;simp at h0
  rw[oh,ay (by rw[h];exact aG),ay hne,h0];simp only[dx];rw[aE h1]
 ·have hne:rs≠[]:=by intro e;subst e;simp at h0
  rw[oh,ay (by rw[h];exact aG),ay hne,h0];simp only[dx];rw[ay h1]
theorem wP (K L:List Int)(k:Nat):(jC K L k).length<=k/\∀r∈jC K L k,r.length<=k:=by
 have h:=pL K L k;have hf:(jC K L k).flatten.length<=k:=by
  rw[h.flat,ng];exact aK (List.length_filter_le _ _) (by simp)
 refine⟨?_,fun r hr=>?_⟩
 ·have:∀l:List (List Nat),(∀r∈l,r≠[])->l.length<=l.flatten.length:=by
   intro l
   induction l with
   | nil=>simp
   | cons a l ih =>
     intro hl;have h1:=ih (fun r hr=>hl r (dH _ hr));have h2:0<a.length:=bW.2 (hl a bX);rw[bg,List.flatten_cons,aD];omega
  have:=this _ h.ne;omega
 ·have:r.length<=(jC K L k).flatten.length:=(List.sublist_flatten_of_mem hr).length_le
  omega
end Go.Proofs.YtnakejhohdbfdacGreatDoor

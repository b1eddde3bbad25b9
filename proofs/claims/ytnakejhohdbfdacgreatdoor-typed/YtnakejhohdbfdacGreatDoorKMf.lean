import Derived.Test.YtnakejhohdbfdacGreatDoorKMe
import Derived.Test.YtnakejhohdbfdacGreatDoorKMa
import Derived.WalkKit
import Derived.LaidEql
import Derived.Stop.Asserts
import Derived.RowKitTokens
import Derived.Test.YtnakejhohdbfdacGreatDoorKLdH
import Derived.Test.YtnakejhohdbfdacGreatDoorKMd
namespace Go.Proofs.YtnakejhohdbfdacGreatDoor
open Go.RowKit Lev
theorem US.far {w:World}{q:UH}{o:Nat}{v:Value}{b j:Nat}{x:Value}(h:w.cell? ⟨b,j,none⟩=some x)(hb:b≠q.U):(w.setCell ⟨q.U,o,none⟩ v).cell? ⟨b,j,none⟩=some x:=by
 rw[cell_far _ _ _ _ _ _ hb.symm];exact h
theorem US.off {w:World}{q:UH}{o:Nat}{v:Value}{j:Nat}{x:Value}(h:w.cell? ⟨q.U,j,none⟩=some x)(hj:j≠o):(w.setCell ⟨q.U,o,none⟩ v).cell? ⟨q.U,j,none⟩=some x:=by
 rw[World.cell?_setCell_other _ _ _ _ (fun e=>hj (by cases e;rfl))];exact h
theorem mark_facts (K:List Int)(s:Sq)(C:List Int)(k:Nat) :
 (¬cl s.I C k=8→markStep K s C k=C) ∧
 (cl s.I C k=8→k=0→markStep K s C k=put s.I C k (ah s C k)) ∧
 (cl s.I C k=8→0<k→(ini (cl s.I K (k - 1)) || cl s.I K (k - 1) == 22)=true→markStep K s C k=put s.I C k 13) ∧
 (cl s.I C k=8→0<k→(ini (cl s.I K (k - 1)) || cl s.I K (k - 1) == 22)=false→markStep K s C k=put s.I C k (ah s C k)):=by
 refine⟨fun h=>?_,fun h h0=>?_,fun h h0 h1=>?_,fun h h0 h1=>?_⟩
 ·rw[markStep,if_neg h]
 ·rw[markStep,if_pos h,if_neg (by omega)]
 ·rw[markStep,if_pos h,if_pos ⟨h0,by simpa using h1⟩]
 ·rw[markStep,if_pos h,if_neg (fun h2=>by have h3:=h2.2;simp at h1;rcases h3 with h3 | h3;rw[h1.1]at h3;cases h3;exact h1.2 h3)]
set_option linter.unusedSimpArgs false in
set_option maxHeartbeats 4000000 in
theorem fn58_any (q:UH)(C L:List Int)(S Q cQ:Nat)(s:Sq)(lv:Int)(w:World)(hu:US w q C L)(hs:SS w q S Q cQ s lv) :
 Calls Tryz.prog 178 #[.pointer (some ⟨S,0,none⟩)] w fun e w'=>e=.returned (.tuple #[])∧US w' q (marksTo q.K s s.I.length C) L∧Fr [q.U] w w':=by
 have c0:=hs.c0;have sm:=hs.sm;have nS:=hs.ne.1;have nQ:=hs.ne.2;have HU:=hid hu;have HS:=hid hs;obtain⟨m,hm⟩:∃m,m=s.I.length:=⟨_,rfl⟩;have HM:=hid hm;rw[←hm]at c0 sm ⊢;clear hu hs hm;go_enter Tryz.func178,Tryz.ntmps178;go_wp2;go_loopw [9] (fun a wr=>∃(k:Nat),a=.int .i64 k∧k≤m∧Hid (US wr q (marksTo q.K s k C) L)∧Hid (Fr [q.U] w wr)) (fun a _=>m - (intOf a).toNat)
 case atStart=>exact⟨0,rfl,Nat.zero_le _,HU,hid (Fr.refl _ _)⟩
 case round =>
  obtain⟨k,rfl,hk,HP,HF⟩:=hrel;by_cases hlt:k<m
  ·obtain⟨hi,p1,p2,p3,p4⟩:=su_k HP.out HS.out HF.out (show k<s.I.length by rw[←HM.out];exact hlt)
   have HSR:=hid (HS.out.frU HF.out);have r0:=HSR.out.c0;rw[←HM.out]at r0;have HSC:=hid (fun z=>HP.out.setC hi z);have HST:=hid (show marksTo q.K s (k+1) C=markStep q.K s (marksTo q.K s k C) k from rfl);have HNS:=hid (mark_facts q.K s (marksTo q.K s k C) k);have HAH:=hid (fn73_any q _ L S Q cQ s lv k wr HP.out HSR.out (by rw[←HM.out];exact hk));rw[←HST.out]at HNS;have hpr:k=0∨∃j,k=j+1∧nix s.I j<q.n∧wr.cell? ⟨Q,j,none⟩=some (.pointer (some ⟨q.U,nix s.I j * 4,none⟩))∧wr.cell? ⟨q.U,nix s.I j * 4+1,none⟩=some (.int .i64 (nth q.K (nix s.I j))):=by
    rcases Nat.eq_zero_or_pos k with h | h
    ·exact .inl h
    ·obtain⟨hi',p1',_,_,p4'⟩:=su_k HP.out HS.out HF.out (show k - 1<s.I.length by rw[←HM.out];omega)
     exact .inr ⟨k - 1,by omega,hi',p1',p4'⟩
   generalize hN2:marksTo q.K s (k+1) C=N2 at *;have HN2:=hid hN2;clear hN2 HST p4;generalize marksTo q.K s k C=N at *;dsimp only[cl,put]at HNS p2 p3 HSC;generalize hav:ah s N k=av at *;clear hav;by_cases hy:nth N (nix s.I k)=8
   ·rcases hpr with h0 | ⟨j,hj,hi',p1',p4'⟩
    ·have HN:=hid (HNS.out.2.1 hy h0)
     rw[hy]at p2;generalize nix s.I k=i at *;have h0d:decide ((0:Int)<(k:Int))=false:=by simp;omega
     have h0e:decide (0<k)=false:=by simp;omega
     clear hy HNS h0;go_wp2_with (first | (go_at_call 193;refine HAH.out.mono ?_;rintro e w' ⟨rfl,rfl⟩));go_roundw
     case rel=>exact⟨k+1,by go_num,by omega,hid (by rw[HN2.out,HN.out];exact HSC.out av),hid (HF.out.set (List.mem_singleton.2 rfl) _)⟩
     case measure=>simp[intOf];omega
    ·have HN3:=hid (HNS.out.2.2.1 hy (by omega))
     have HN4:=hid (HNS.out.2.2.2 hy (by omega));rw[show k - 1=j by omega]at HN3 HN4;rw[hy]at p2;have q1:=US.far (q:=q) (o:=nix s.I k * 4+2) (v:=.int .i64 av) r0 nS;have q2:=US.far (q:=q) (o:=nix s.I k * 4+2) (v:=.int .i64 av) p1' nQ;have q3:=US.off (q:=q) (o:=nix s.I k * 4+2) (v:=.int .i64 av) p4' (by omega);have HX2:=hid (fun z=>(HSC.out av).setC hi z);have q5:=(HSC.out av).soft (nix s.I k * 4+2) (by omega);have q6:=(HSC.out av).c _ hi;rw[nth_set _ _ _ _ (by rw[HP.out.lC];exact hi),if_pos rfl]at q6;generalize nth q.K (nix s.I j)=kk at *;generalize nix s.I j=i' at *;generalize nix s.I k=i at *;have hkI:(0:Int)<(k:Int):=by omega
     have hkj:(k:Int) - 1=(j:Int):=by omega
     have hjm:(j:Int)<(m:Int):=by omega
     have HC89:=hid (fn89_any kk);clear hy HNS hj;cases hb:(ini kk || kk == 22)
     ·have HN:=hid (HN4.out hb)
      rw[hb]at HC89;clear HN3 HN4 hb;go_wp2_with (first | (go_at_call 193;refine HAH.out.mono ?_;rintro e w' ⟨rfl,rfl⟩) | (go_at_call 198;refine(HC89.out _).mono ?_;rintro e w' ⟨rfl,rfl⟩));go_roundw
      case rel=>exact⟨k+1,by go_num,by omega,hid (by rw[HN2.out,HN.out];exact HSC.out av),hid (HF.out.set (List.mem_singleton.2 rfl) _)⟩
      case measure=>simp[intOf];omega
     ·have HN:=hid (HN3.out hb)
      rw[hb]at HC89;clear HN3 HN4 hb;go_wp2_with (first | (go_at_call 193;refine HAH.out.mono ?_;rintro e w' ⟨rfl,rfl⟩) | (go_at_call 198;refine(HC89.out _).mono ?_;rintro e w' ⟨rfl,rfl⟩));go_roundw
      case rel=>exact⟨k+1,by go_num,by omega,hid (by rw[HN2.out,HN.out];have h:=HX2.out 13;rw[set_set_same]at h;exact h),hid ((HF.out.set (List.mem_singleton.2 rfl) _).set (List.mem_singleton.2 rfl) _)⟩
      case measure=>simp[intOf];omega
   ·have HN:=hid (HNS.out.1 hy)
    generalize nth N (nix s.I k)=y at *;generalize nix s.I k=i at *;clear hpr;go_wp2;go_roundw
    case rel=>exact⟨k+1,by go_num,by omega,hid (by rw[HN2.out,HN.out];exact HP.out),HF⟩
    case measure=>simp[intOf];omega
  ·have hk2:k=m:=by omega
   have HPZ:=hid (show US wr q (marksTo q.K s m C) L by rw[←hk2];exact HP.out);clear hk2;go_wp2;go_end0;exact⟨rfl,HPZ.out,HF.out⟩
theorem sep_facts' (s:Sq)(C:List Int)(k:Nat) :
 (¬ah s C k=att s C (k+1)→sepStep s C k=C) ∧
 (ah s C k=att s C (k+1)→ah s C k=3→(cl s.I C k=4∨cl s.I C k=7)→sepStep s C k=put s.I C k 3) ∧
 (ah s C k=att s C (k+1)→ah s C k=6→cl s.I C k=7→sepStep s C k=put s.I C k 6) ∧
 (¬(ah s C k=3∧(cl s.I C k=4∨cl s.I C k=7))→¬(ah s C k=6∧cl s.I C k=7)→sepStep s C k=C):=by
 refine⟨fun h=>?_,fun h h1 h2=>?_,fun h h1 h2=>?_,fun h h1=>?_⟩
 ·rw[sepStep,if_neg (fun h2=>h h2.1)]
 ·rw[sepStep,if_pos ⟨h,.inl ⟨h1,h2⟩⟩,h1]
 ·rw[sepStep,if_pos ⟨h,.inr ⟨h1,h2⟩⟩,h1]
 ·rw[sepStep,if_neg (fun h2=>by rcases h2.2 with h3 | h3;exact h h3;exact h1 h3)]
set_option linter.unusedSimpArgs false in
set_option maxHeartbeats 4000000 in
theorem fn61_any (q:UH)(C L:List Int)(S Q cQ:Nat)(s:Sq)(lv:Int)(w:World)(hu:US w q C L)(hs:SS w q S Q cQ s lv) :
 Calls Tryz.prog 181 #[.pointer (some ⟨S,0,none⟩)] w fun e w'=>e=.returned (.tuple #[])∧US w' q (sepTo s s.I.length C) L∧Fr [q.U] w w':=by
 have c0:=hs.c0;have sm:=hs.sm;have HU:=hid hu;have HS:=hid hs;obtain⟨m,hm⟩:∃m,m=s.I.length:=⟨_,rfl⟩;have HM:=hid hm;rw[←hm]at c0 sm ⊢;clear hu hs hm;go_enter Tryz.func181,Tryz.ntmps181;go_wp2;go_loopw [10] (fun a wr=>∃(k:Nat),a=.int .i64 k∧k≤m∧Hid (US wr q (sepTo s k C) L)∧Hid (Fr [q.U] w wr)) (fun a _=>m - (intOf a).toNat)
 case atStart=>exact⟨0,rfl,Nat.zero_le _,HU,hid (Fr.refl _ _)⟩
 case round =>
  obtain⟨k,rfl,hk,HP,HF⟩:=hrel;by_cases hlt:k<m
  ·obtain⟨hi,p1,p2,p3,p4⟩:=su_k HP.out HS.out HF.out (show k<s.I.length by rw[←HM.out];exact hlt)
   have HSR:=hid (HS.out.frU HF.out);have HSC:=hid (fun z=>HP.out.setC hi z);have HST:=hid (show sepTo s (k+1) C=sepStep s (sepTo s k C) k from rfl);have HNS:=hid (sep_facts' s (sepTo s k C) k);have HAH:=hid (fn73_any q _ L S Q cQ s lv k wr HP.out HSR.out (by rw[←HM.out];exact hk));have HAT:=hid (fn74_any q _ L S Q cQ s lv (k+1) wr HP.out HSR.out (by rw[←HM.out];omega));rw[Int.natCast_add]at HAT;rw[←HST.out]at HNS;generalize hN2:sepTo s (k+1) C=N2 at *;have HN2:=hid hN2;clear hN2 HST p4;generalize sepTo s k C=N at *;dsimp only[cl,put]at *;generalize ah s N k=av at *;generalize att s N (k+1)=bv at *;generalize nix s.I k=i at *;generalize nth N i=y at *;have HAT2:Hid (Calls Tryz.prog 194 #[.pointer (some ⟨S,0,none⟩),.int .i64 ((k:Int)+1)] wr fun e w'=>e=.returned (.int .i64 bv)∧w'=wr):=HAT;clear HAT;by_cases hab:av=bv
   ·have hN:=hid (HNS.out.2.2.2)
    by_cases h3:av=3
    ·by_cases hy:y=4∨y=7
     ·have HN:=hid (HNS.out.2.1 hab h3 hy)
      subst h3;subst hab;clear hN HNS
      rcases hy with rfl | rfl
      all_goals (
          go_wp2_with (first | (go_at_call 193;refine HAH.out.mono ?_;rintro e w' ⟨rfl,rfl⟩) | (go_at_call 194;refine HAT2.out.mono ?_;rintro e w' ⟨rfl,rfl⟩))
          go_roundw
          case rel=>exact⟨k+1,by go_num,by omega,hid (by rw[HN2.out,HN.out];exact HSC.out 3),hid (HF.out.set (List.mem_singleton.2 rfl) _)⟩
          case measure=>simp[intOf];omega)
     ·have HN:=hid (hN.out (fun h=>hy h.2) (by omega))
      have y4:¬y=4:=fun h=>hy (.inl h)
      have y7:¬y=7:=fun h=>hy (.inr h)
      have y4b:(y == 4)=false:=by simp[y4]
      have y7b:(y == 7)=false:=by simp[y7]
      subst h3;subst hab;clear hN HNS hy;go_wp2_with (first | (go_at_call 193;refine HAH.out.mono ?_;rintro e w' ⟨rfl,rfl⟩) | (go_at_call 194;refine HAT2.out.mono ?_;rintro e w' ⟨rfl,rfl⟩));go_roundw
      case rel=>exact⟨k+1,by go_num,by omega,hid (by rw[HN2.out,HN.out];exact HP.out),HF⟩
      case measure=>simp[intOf];omega
    ·by_cases h6:av=6
     ·by_cases hy:y=7
      ·have HN:=hid (HNS.out.2.2.1 hab h6 hy)
       subst h6;subst hab;subst hy;clear hN HNS h3;go_wp2_with (first | (go_at_call 193;refine HAH.out.mono ?_;rintro e w' ⟨rfl,rfl⟩) | (go_at_call 194;refine HAT2.out.mono ?_;rintro e w' ⟨rfl,rfl⟩));go_roundw
       case rel=>exact⟨k+1,by go_num,by omega,hid (by rw[HN2.out,HN.out];exact HSC.out 6),hid (HF.out.set (List.mem_singleton.2 rfl) _)⟩
       case measure=>simp[intOf];omega
      ·have HN:=hid (hN.out (fun h=>h3 h.1) (fun h=>hy h.2))
       have y7b:(y == 7)=false:=by simp[hy]
       subst h6;subst hab;clear hN HNS h3;go_wp2_with (first | (go_at_call 193;refine HAH.out.mono ?_;rintro e w' ⟨rfl,rfl⟩) | (go_at_call 194;refine HAT2.out.mono ?_;rintro e w' ⟨rfl,rfl⟩));go_roundw
       case rel=>exact⟨k+1,by go_num,by omega,hid (by rw[HN2.out,HN.out];exact HP.out),HF⟩
       case measure=>simp[intOf];omega
     ·have HN:=hid (hN.out (fun h=>h3 h.1) (fun h=>h6 h.1))
      subst hab;clear hN HNS;go_wp2_with (first | (go_at_call 193;refine HAH.out.mono ?_;rintro e w' ⟨rfl,rfl⟩) | (go_at_call 194;refine HAT2.out.mono ?_;rintro e w' ⟨rfl,rfl⟩));go_roundw
      case rel=>exact⟨k+1,by go_num,by omega,hid (by rw[HN2.out,HN.out];exact HP.out),HF⟩
      case measure=>simp[intOf];omega
   ·have HN:=hid (HNS.out.1 hab)
    clear HNS;go_wp2_with (first | (go_at_call 193;refine HAH.out.mono ?_;rintro e w' ⟨rfl,rfl⟩) | (go_at_call 194;refine HAT2.out.mono ?_;rintro e w' ⟨rfl,rfl⟩));go_roundw
    case rel=>exact⟨k+1,by go_num,by omega,hid (by rw[HN2.out,HN.out];exact HP.out),HF⟩
    case measure=>simp[intOf];omega
  ·have hk2:k=m:=by omega
   have HPZ:=hid (show US wr q (sepTo s m C) L by rw[←hk2];exact HP.out);clear hk2;go_wp2;go_end0;exact⟨rfl,HPZ.out,HF.out⟩
theorem bec_facts (K:List Int)(I:List Nat)(v:Int)(f j:Nat)(C:List Int) :
 (j<I.length→cl I K j=8→becTo K I v (f+1) j C=becTo K I v f (j+1) (put I C j v))∧(j<I.length→¬cl I K j=8→becTo K I v f j C=C)∧(I.length≤j→becTo K I v f j C=C):=by
 refine⟨fun h h1=>?_,fun h h1=>?_,fun h=>?_⟩
 ·rw[becTo,if_pos ⟨h,h1⟩]
 ·cases f with
  | zero=>rfl
  | succ f=>rw[becTo,if_neg (fun h2=>h1 h2.2)]
 ·cases f with
  | zero=>rfl
  | succ f=>rw[becTo,if_neg (fun h2=>by omega)]
set_option linter.unusedSimpArgs false in
set_option maxHeartbeats 4000000 in
theorem fn98_any (q:UH)(C L:List Int)(S Q cQ:Nat)(s:Sq)(lv:Int)(k:Nat)(v:Int)(w:World)(hu:US w q C L)(hs:SS w q S Q cQ s lv)(hk:k<s.I.length) :
 Calls Tryz.prog 217 #[.pointer (some ⟨S,0,none⟩),.int .i64 k,.int .i64 v] w fun e w'=>e=.returned (.tuple #[])∧US w' q (become q.K s.I k v C) L∧Fr [q.U] w w':=by
 have c0:=hs.c0;have sm:=hs.sm;have cp:=hs.cp;have nS:=hs.ne.1;have nQ:=hs.ne.2;obtain⟨hi0,p1,p2,p3,p4⟩:=su_k hu hs (Fr.refl _ _) hk;have HU0:=hid (hu.setC hi0 v);have HF0:=hid (fr_set1 w q.U (nix s.I k * 4+2) (.int .i64 v));have HS:=hid hs;have c0':=US.far (q:=q) (o:=nix s.I k * 4+2) (v:=.int .i64 v) c0 nS;obtain⟨Z,hZ⟩:∃Z,Z=become q.K s.I k v C:=⟨_,rfl⟩;have HZ:=hid (show Z=becTo q.K s.I v s.I.length (k+1) (put s.I C k v)from hZ);rw[←hZ];obtain⟨m,hm⟩:∃m,m=s.I.length:=⟨_,rfl⟩;have HM:=hid hm;rw[←hm]at c0 c0' sm hk cp;dsimp only[put]at HZ;generalize nix s.I k=i0 at *;obtain⟨d,hd⟩:∃d,m - (k+1)=d:=⟨_,rfl⟩;have HD:=hid (show m=k+1+d by omega);have hdm:d≤1000000:=by omega
 have hI1:(k:Int)+1≤(m:Int):=by omega
 have hI2:(k:Int)+1≤(cQ:Int):=by omega
 have hm0:0<m:=by omega
 clear hu hs hm hZ;by_cases hca:cQ=k+1
 ·have HZ2:=hid (show Z=C.set i0 v by rw[HZ.out];exact(bec_facts q.K s.I v _ _ _).2.2 (by rw[←HM.out];omega))
  have HDZ:=hid (show d=0 by have:=HD.out;omega);go_enter Tryz.func217,Tryz.ntmps217;go_wp2;go_loopw [26] (fun x wr=>x=.int .i64 0∧wr=w.setCell ⟨q.U,i0 * 4+2,none⟩ (.int .i64 v)) (fun _ _=>0)
  case atStart=>exact⟨rfl,rfl⟩
  case round =>
   obtain⟨rfl,rfl⟩:=hrel;have hdz:=HDZ.out;subst hdz;go_wp2;go_end0;exact⟨rfl,by rw[HZ2.out];exact HU0.out,HF0.out⟩
 ·go_enter Tryz.func217,Tryz.ntmps217
  go_wp2;clear hca hd c0 c0' p1 p2 p3 p4;go_loopw [26] (fun x wr=>∃(t f:Nat) (N:List Int),x=.int .i64 t∧t≤d∧Hid (Z=becTo q.K s.I v f (k+1+t) N)∧Hid (d≤t+f)∧Hid (US wr q N L)∧Hid (Fr [q.U] w wr)) (fun x _=>d - (intOf x).toNat)
  case atStart=>exact⟨0,s.I.length,_,rfl,Nat.zero_le _,HZ,hid (by rw[←HM.out];have:=HD.out;omega),HU0,HF0⟩
  case round =>
   obtain⟨t,f,N,rfl,ht,HZT,HTF,HP,HF⟩:=hrel;by_cases hlt:t<d
   ·obtain⟨f',rfl⟩:∃f',f=f'+1:=⟨f - 1,by have:=HTF.out;omega⟩
    obtain⟨hi,e1,e2,e3,e4⟩:=su_k HP.out HS.out HF.out (show k+1+t<s.I.length by rw[←HM.out];have:=HD.out;omega);have HSC:=hid (fun z=>HP.out.setC hi z);have HBF:=hid (bec_facts q.K s.I v f' (k+1+t) N);have HBF2:=hid (bec_facts q.K s.I v (f'+1) (k+1+t) N);have hkl:k+1+t<s.I.length:=by rw[←HM.out];have:=HD.out;omega
    have HKL:=hid hkl;have HLT:=hid hlt;dsimp only[cl,put]at HBF HBF2;generalize nix s.I (k+1+t)=i at *;generalize nth q.K i=y at *;generalize nth N i=z at *;by_cases hy:y=8
    ·have HZN:=hid (show Z=becTo q.K s.I v f' (k+1+(t+1)) (N.set i v) by rw[HZT.out];exact HBF.out.1 HKL.out hy)
     subst hy;clear HBF HBF2 hkl;go_wp2;go_roundw
     case rel=>exact⟨t+1,f',_,by go_num,by have:=HLT.out;omega,HZN,hid (by have:=HTF.out;omega),hid (HSC.out v),hid (HF.out.set (List.mem_singleton.2 rfl) _)⟩
     case measure=>have:=HLT.out;simp[intOf];omega
    ·have HZN:=hid (show Z=N by rw[HZT.out];exact HBF2.out.2.1 HKL.out hy)
     clear HBF HBF2 hkl;go_wp2
     (try simp only[Exit.inBlock,Exit.then])
     refine bodyPost_ret (results_none rfl _ _ _) rfl ?_;exact⟨rfl,by rw[HZN.out];exact HP.out,HF.out⟩
   ·have HZN:=hid (show Z=N by rw[HZT.out];exact(bec_facts q.K s.I v f (k+1+t) N).2.2 (by rw[←HM.out];have:=HD.out;omega))
    have hti:¬(t:Int)<(d:Int):=by omega
    go_wp2;go_end0;exact⟨rfl,by rw[HZN.out];exact HP.out,HF.out⟩
theorem fn97_any (q:UH)(C L:List Int)(S Q cQ:Nat)(s:Sq)(lv:Int)(a b:Nat)(v:Int)(w:World)(hu:US w q C L)(hs:SS w q S Q cQ s lv)(ha:a<s.I.length)(hb:b<s.I.length) :
 Calls Tryz.prog 189 #[.pointer (some ⟨S,0,none⟩),.int .i64 a,.int .i64 b,.int .i64 v] w fun e w'=>e=.returned (.tuple #[])∧US w' q (become q.K s.I b v (become q.K s.I a v C)) L∧Fr [q.U] w w':=by
 have H1:=hid (fn98_any q C L S Q cQ s lv a v w hu hs ha);have H2:=hid (fun w' hu' hs'=>fn98_any q (become q.K s.I a v C) L S Q cQ s lv b v w' hu' hs' hb);have HS:=hid hs;clear hu hs;go_enter Tryz.func189,Tryz.ntmps189;go_wp2_with fail;refine H1.out.mono ?_;rintro e w1 ⟨rfl,hu1,hf1⟩;have H3:=hid (H2.out w1 hu1 (HS.out.frU hf1));have HF1:=hid hf1;clear hu1 hf1 H1 H2;go_wp2_with fail;refine H3.out.mono ?_;rintro e w2 ⟨rfl,hu2,hf2⟩;have HU2:=hid hu2;have HF2:=hid (HF1.out.trans hf2);clear hu2 hf2;go_wp2;go_end0;exact⟨rfl,HU2.out,HF2.out⟩
theorem set_nth_self (l:List Int)(i:Nat):l.set i (nth l i)=l:=by
 refine list_ext_nth (by simp) (fun j hj=>?_);rw[nth_set'];split
 ·next h=>rw[h.1]
 ·rfl
theorem lift_facts (lv c:Int):(lv % 2=0→(c=3∨c=6)→lift lv c=2)∧(¬(lv % 2=0∧(c=3∨c=6))→¬c=way lv→lift lv c=1)∧(¬(lv % 2=0∧(c=3∨c=6))→c=way lv→lift lv c=0):=by
 refine⟨fun h h1=>?_,fun h h1=>?_,fun h h1=>?_⟩
 ·rw[lift,if_pos ⟨h,h1⟩]
 ·rw[lift,if_neg h,if_pos h1]
 ·rw[lift,if_neg h,if_neg (by simpa using h1)]
set_option linter.unusedSimpArgs false in
set_option maxHeartbeats 4000000 in
theorem fn27_any (q:UH)(C L:List Int)(S Q cQ:Nat)(s:Sq)(lv:Int)(w:World)(hu:US w q C L)(hs:SS w q S Q cQ s lv)(hl0:0≤lv)(hinj:inj s.I)(hL:∀i,0≤nth L i∧nth L i≤1000) :
 Calls Tryz.prog 142 #[.pointer (some ⟨S,0,none⟩)] w fun e w'=>e=.returned (.tuple #[])∧US w' q C (growTo s.I lv C s.I.length L)∧Fr [q.U] w w':=by
 have c0:=hs.c0;have sm:=hs.sm;have HU:=hid hu;have HS:=hid hs;have HL:=hid hL;have HIN:=hid (fun k (hk:k≤s.I.length)=>grow_in hinj (L:=L) (fun j hj=>by rw[hu.lL];exact hs.lt j hj) lv C k hk);obtain⟨m,hm⟩:∃m,m=s.I.length:=⟨_,rfl⟩;have HM:=hid hm;rw[←hm]at c0 sm ⊢;clear hu hs hm hL hinj;go_enter Tryz.func142,Tryz.ntmps142;go_wp2;go_loopw [10] (fun a wr=>∃(k:Nat),a=.int .i64 k∧k≤m∧Hid (US wr q C (growTo s.I lv C k L))∧Hid (Fr [q.U] w wr)) (fun a _=>m - (intOf a).toNat)
 case atStart=>exact⟨0,rfl,Nat.zero_le _,HU,hid (Fr.refl _ _)⟩
 case round =>
  obtain⟨k,rfl,hk,HP,HF⟩:=hrel;by_cases hlt:k<m
  ·obtain⟨hi,p1,p2,p3,p4⟩:=su_k HP.out HS.out HF.out (show k<s.I.length by rw[←HM.out];exact hlt)
   have HSR:=hid (HS.out.frU HF.out);have r1:=HSR.out.c1;have p5:=HP.out.l _ hi;have p6:=HP.out.soft (nix s.I k * 4+3) (by omega);have HSL:=hid (fun z=>HP.out.setL hi z);have HST:=hid (show growTo s.I lv C (k+1) L=put s.I (growTo s.I lv C k L) k (cl s.I (growTo s.I lv C k L) k+lift lv (cl s.I C k))from rfl);have hlow:=(HIN.out k (by rw[←HM.out];exact hk)).2 k (Nat.le_refl _) (by rw[←HM.out];exact hlt);have hbd:=HL.out (nix s.I k);dsimp only[cl,put]at HST hlow;rw[←hlow]at hbd;have HC123:=hid (fun(w':World) (hf:Fr [q.U] wr w')=>fn68_any q S Q cQ s lv w' (HSR.out.frU hf) hl0);generalize hN2:growTo s.I lv C (k+1) L=N2 at *;have HN2:=hid hN2;clear hN2 p4 hlow;generalize growTo s.I lv C k L=N at *;generalize nix s.I k=i at *;have HLF:=hid (lift_facts lv (nth C i));generalize nth C i=y at *;have HSETZ:=hid (show N.set i (nth N i)=N from set_nth_self N i);generalize nth N i=z at *;generalize lift lv y=lf at *;have HG:=hid (fun(x:Int) (h:lf=x)=>(show N2=N.set i (z+x) by rw[HST.out,h]));have hr:lv % 2=0∨lv % 2=1:=by omega
   have HWY:=hid (show way lv=if lv % 2=1 then 1 else 0 from rfl);clear HST;by_cases hn:y=3∨y=6
   ·rcases hr with h0 | h0
    ·have HN:=hid (HG.out 2 (HLF.out.1 h0 hn))
     rcases hn with rfl | rfl
     all_goals (
      go_wp2
      go_roundw
      case rel=>exact⟨k+1,by go_num,by omega,hid (by rw[HN2.out,HN.out];exact HSL.out _),hid (HF.out.set (List.mem_singleton.2 rfl) _)⟩
      case measure=>simp[intOf];omega)
    ·have HWV:=hid (show way lv=1 by rw[HWY.out,if_pos h0])
     have HN:=hid (HG.out 1 (HLF.out.2.1 (by omega) (by rw[HWV.out];omega)));rw[HWV.out]at HC123
     rcases hn with rfl | rfl
     all_goals (
      go_wp2
      go_quiet (first | (go_at_call 188;exact Calls.quiet_of (HC123.out _ ((Fr.refl [q.U] wr).drewN _))))
      go_wp2
      go_roundw
      case rel=>exact⟨k+1,by go_num,by omega,hid (by rw[HN2.out,HN.out];exact(HSL.out _).fr (T:=[]) (frz _ _ _ rfl rfl rfl rfl) List.not_mem_nil),hid ((HF.out.set (List.mem_singleton.2 rfl) _).trans (frz _ _ _ rfl rfl rfl rfl))⟩
      case measure=>simp[intOf];omega)
   ·have y3:¬y=3:=fun h=>hn (.inl h)
    have y6:¬y=6:=fun h=>hn (.inr h)
    have y3b:(y == 3)=false:=by simp[y3]
    have y6b:(y == 6)=false:=by simp[y6]
    generalize way lv=wl at *;by_cases hw:y=wl
    ·have HN:=hid (HG.out 0 (HLF.out.2.2 (fun h=>hn h.2) hw))
     subst hw;clear hn
     rcases hr with h0 | h0
     all_goals (
      go_wp2
      go_quiet (first | (go_at_call 188;exact Calls.quiet_of (HC123.out _ ((Fr.refl [q.U] wr).drewN _))))
      go_wp2
      go_roundw
      case rel=>exact⟨k+1,by go_num,by omega,hid (by rw[HN2.out,HN.out,Int.add_zero,HSETZ.out];exact HP.out.fr (T:=[]) (frz _ _ _ rfl rfl rfl rfl) List.not_mem_nil),hid (HF.out.trans (frz _ _ _ rfl rfl rfl rfl))⟩
      case measure=>simp[intOf];omega)
    ·have HN:=hid (HG.out 1 (HLF.out.2.1 (fun h=>hn h.2) hw))
     have hwb:(y == wl)=false:=by simp[hw]
     clear hn
     rcases hr with h0 | h0
     all_goals (
      go_wp2
      go_quiet (first | (go_at_call 188;exact Calls.quiet_of (HC123.out _ ((Fr.refl [q.U] wr).drewN _))))
      go_wp2
      go_roundw
      case rel=>exact⟨k+1,by go_num,by omega,hid (by rw[HN2.out,HN.out];exact(HSL.out _).fr (T:=[]) (frz _ _ _ rfl rfl rfl rfl) List.not_mem_nil),hid ((HF.out.set (List.mem_singleton.2 rfl) _).trans (frz _ _ _ rfl rfl rfl rfl))⟩
      case measure=>simp[intOf];omega)
  ·have hk2:k=m:=by omega
   have HPZ:=hid (show US wr q C (growTo s.I lv C m L) by rw[←hk2];exact HP.out);clear hk2;go_wp2;go_end0;exact⟨rfl,HPZ.out,HF.out⟩
end Go.Proofs.YtnakejhohdbfdacGreatDoor
namespace Go.Proofs.YtnakejhohdbfdacGreatDoor
open Go.RowKit Lev
theorem weak_pr {K:List Int}{s:Sq}{C:List Int}(hb:s.bef=0∨s.bef=1)(hw:within s.I C)(h:Among S0 s.I C s.I.length) :
 (numsTo s.I true 0 0 s.I.length (s.bef,looseTo s.I s.I.length (scan s.I isET (etAct s) (sepTo s s.I.length (alTo s.I s.I.length (numsTo s.I true 2 6 s.I.length (s.bef,marksTo K s s.I.length C)).2))))).2=weak K s C:=by
 have h1:=(marks_S (K:=K) hb hw h s.I.length (Nat.le_refl _)).2;have l1:=marks_len K s C s.I.length;have h2:=nums_S (P:=S1) (al:=true) (letter:=2) (v:=6) ⟨by unfold S0;omega,by omega⟩ (q:=(s.bef,marksTo K s s.I.length C)) h1 s.I.length;have l2:=nums_len s.I true 2 6 (s.bef,marksTo K s s.I.length C) s.I.length;have h3:=(al_S (hw.of (by rw[l2];exact l1)) h2 s.I.length (Nat.le_refl _)).2;have l3:=al_len s.I (numsTo s.I true 2 6 s.I.length (s.bef,marksTo K s s.I.length C)).2 s.I.length;have h4:=sep_S h3 s.I.length;have l4:=sep_len s (alTo s.I s.I.length (numsTo s.I true 2 6 s.I.length (s.bef,marksTo K s s.I.length C)).2) s.I.length;have h5:=et_S h4;have l5:=et_len s (sepTo s s.I.length (alTo s.I s.I.length (numsTo s.I true 2 6 s.I.length (s.bef,marksTo K s s.I.length C)).2));have h6:=(loose_S (hw.of (by rw[l5,l4,l3,l2];exact l1)) h5 s.I.length (Nat.le_refl _)).2;unfold weak;rw[nums_al (by decide) (h6.mono (fun c hc=>hc.1.2)) s.I.length (Nat.le_refl _)]
set_option maxRecDepth 10000 in
set_option maxHeartbeats 4000000 in
theorem fn24_any (q:UH)(C L:List Int)(S Q cQ:Nat)(s:Sq)(lv:Int)(w:World)(hu:US w q C L)(hs:SS w q S Q cQ s lv)(hb:s.bef=0∨s.bef=1)(h0:Among S0 s.I C s.I.length)
 (term:∀(C:List Int) (w:World),US w q C L→SS w q S Q cQ s lv→Calls Tryz.prog 182 #[.pointer (some ⟨S,0,none⟩)] w fun e w'=>e=.returned (.tuple #[])∧US w' q (scan s.I isET (etAct s) C) L∧Fr [q.U] w w') :
 Calls Tryz.prog 139 #[.pointer (some ⟨S,0,none⟩)] w fun e w'=>e=.returned (.tuple #[])∧US w' q (weak q.K s C) L∧Fr [q.U] w w':=by
 have HS:=hid hs;have HW:=hid (weak_pr (K:=q.K) hb (fun k hk=>by rw[hu.lC];exact hs.lt k hk) h0);have HT:=hid term;have H1:=hid (fn58_any q C L S Q cQ s lv w hu hs);generalize weak q.K s C=Z at *;clear hu hs hb h0 term;go_enter Tryz.func139,Tryz.ntmps139;go_wp2_with fail;refine H1.out.mono ?_;rintro e w1 ⟨rfl,hu1,hf1⟩;have H2:=hid (fn59_any q _ L S Q cQ s lv 2 6 w1 hu1 (HS.out.frU hf1));have HF1:=hid hf1;clear hu1 hf1 H1;go_wp2_with fail;refine H2.out.mono ?_;rintro e w2 ⟨rfl,hu2,hf2⟩;have HF2:=hid (HF1.out.trans hf2);have H3:=hid (fn60_any q _ L S Q cQ s lv w2 hu2 (HS.out.frU HF2.out));clear hu2 hf2 H2;go_wp2_with fail;refine H3.out.mono ?_;rintro e w3 ⟨rfl,hu3,hf3⟩;have HF3:=hid (HF2.out.trans hf3);have H4:=hid (fn61_any q _ L S Q cQ s lv w3 hu3 (HS.out.frU HF3.out));clear hu3 hf3 H3;go_wp2_with fail;refine H4.out.mono ?_;rintro e w4 ⟨rfl,hu4,hf4⟩;have HF4:=hid (HF3.out.trans hf4);have H5:=hid (HT.out _ w4 hu4 (HS.out.frU HF4.out));clear hu4 hf4 H4;go_wp2_with fail;refine H5.out.mono ?_;rintro e w5 ⟨rfl,hu5,hf5⟩;have HF5:=hid (HF4.out.trans hf5);have H6:=hid (fn63_any q _ L S Q cQ s lv w5 hu5 (HS.out.frU HF5.out));clear hu5 hf5 H5;go_wp2_with fail;refine H6.out.mono ?_;rintro e w6 ⟨rfl,hu6,hf6⟩;have HF6:=hid (HF5.out.trans hf6);have H7:=hid (fn59_any q _ L S Q cQ s lv 0 0 w6 hu6 (HS.out.frU HF6.out));rw[HW.out]at H7;clear hu6 hf6 H6;go_wp2_with fail;refine H7.out.mono ?_;rintro e w7 ⟨rfl,hu7,hf7⟩;have HU7:=hid hu7;have HF7:=hid (HF6.out.trans hf7);clear hu7 hf7;go_wp2;go_end0;exact⟨rfl,HU7.out,HF7.out⟩
set_option maxRecDepth 10000 in
set_option maxHeartbeats 2000000 in
theorem check_ok (s:ByteArray)(b:Int)(w:World)(hs:s.size≤400)(hb:b=0∨b=1∨b=2) :
 Calls Tryz.prog 83 #[.string s,.int .i64 b] w fun e w'=>e=.returned .nilIface∧w'=w:=by
 have hsI:(s.size:Int)≤400:=by omega
 have hd1:decide ((400:Int)<(s.size:Int))=false:=decide_eq_false (by omega);have hd2:decide (400<s.size)=false:=decide_eq_false (by omega)
 rcases hb with rfl | rfl | rfl
 all_goals
  go_enter Tryz.func83,Tryz.ntmps83;go_wp2;go_ret;exact⟨rfl,rfl⟩
end Go.Proofs.YtnakejhohdbfdacGreatDoor
namespace Go.Proofs.YtnakejhohdbfdacGreatDoor.As
open Go.RowKit Go.Extern.Stop Go.Stop Go.Extern
abbrev ty (t:Nat):Value:=.pointer (some ⟨10,t,none⟩)
abbrev rty (t:Nat):Value:=.iface 230 (.agg #[ty t])
abbrev vv (t:Nat)(a:Addr):Value:=.agg #[ty t,.pointer (some a),.int .u64 406]
def w1 (w:World)(t:Addr):World:=w.alloc (.cells #[.pointer (some t)] 119)
def w2 (w:World)(t:Addr):World:=(w1 w t).alloc (.cells #[ty 119,.pointer (some ⟨w.heap.size,0,none⟩),.int .u64 150] 183)
def w3 (w:World)(t:Addr):World:=(w2 w t).alloc (.cells #[ty 119,.pointer (some ⟨w.heap.size,0,none⟩),.int .u64 150] 183)
def w4 (w:World)(e t:Addr):World:=((w3 w t).alloc (.cells #[.pointer (some e)] 117)).setCell t (.pointer (some e))
end Go.Proofs.YtnakejhohdbfdacGreatDoor.As
namespace Go.Proofs.YtnakejhohdbfdacGreatDoor
open Go.RowKit Lev
end Go.Proofs.YtnakejhohdbfdacGreatDoor
namespace Go.Proofs.YtnakejhohdbfdacGreatDoor
open Go.RowKit Lev
end Go.Proofs.YtnakejhohdbfdacGreatDoor
namespace Go.Proofs.YtnakejhohdbfdacGreatDoor
open Go.RowKit Lev Lay Bnd
structure Floor (w:World):Prop where
 t3:Cls.TabAt w 1 Tabs.lowTab
 t4:Cls.TabAt w 2 Tabs.highTab
 t9:Cls.TabAt w 0 Tabs.kindTab
 e0:w.cell? ⟨3,0,none⟩=some (As.rty 71)
theorem Floor.fr {w w':World}(h:Floor w)(hf:Fr [] w w'):Floor w' :=
 ⟨tab_fr h.t3 hf,tab_fr h.t4 hf,tab_fr h.t9 hf,hf.cell h.e0 List.not_mem_nil⟩
theorem second_last {s:ByteArray}{n:Nat}(h:Dec.Ends s n):nix (bix s n) ((bix s n).length - 2)≤n∧nth (bnd s n) ((bnd s n).length - 2)=((Dec.pos s (nix (bix s n) ((bix s n).length - 2)):Nat):Int):=by
 have hl:=bix_len s n;refine⟨?_,?_⟩
 ·rcases Nat.lt_or_eq_of_le (show(bix s n).length - 2≤cn s n by rw[cn];omega)with h1 | h1
  ·have:=nix_lt (bix_sorted s n) h1 (by rw[cn];omega);rw[bix_last]at this;omega
  ·rw[h1,bix_last];exact Nat.le_refl _
 ·rw[bnd_length h];exact bnd_nth h (by omega)
theorem chk_in {s:ByteArray}{n:Nat}{b:Int}{W Br:List Int}(h:Dec.Ends s n)(hs:s.size≤400)(hb:b=0∨b=1∨b=2):chk s n (clsOf s n) b W Br=if okW W n=false then 3 else if Lay.brTo (bnd s n) s.size Br Br.length=false then 4 else if anyB (clsOf s n) (nix (bix s n) ((bix s n).length - 2))=true then 5 else 0:=by
 have h2:=second_last h;rw[chk,if_neg (by omega),if_neg (by omega),h2.2,early_anyB (Dec.pos_mono s),show min n (nix (bix s n) ((bix s n).length - 2))=nix (bix s n) ((bix s n).length - 2) by have:=h2.1;omega];unfold okW;by_cases h1:W.length=n
 ·cases h3:Lay.wOk W n
  ·rw[if_pos (.inr rfl),if_pos (by simp)]
  ·rw[if_neg (show ¬(W.length≠n∨true=false) by simp[h1]),if_neg (show ¬((decide (W.length=n) && true)=false) by simp[h1])]
 ·rw[if_pos (.inl h1),if_pos (by simp[h1])]
end Go.Proofs.YtnakejhohdbfdacGreatDoor
namespace Go.Proofs.YtnakejhohdbfdacGreatDoor
open Go.RowKit Lev Lay
end Go.Proofs.YtnakejhohdbfdacGreatDoor
namespace Go.Proofs.YtnakejhohdbfdacGreatDoor
open Go.RowKit Lev
structure RW (W wr:World)(v:Value)(rs:List (List Nat))(hs:List Value)(B:Nat):Prop where
 fr:Fr [] W wr
 own:wr.ownsRow W.heap.size 32 1 v rs.length hs
 b0:W.heap.size≤B∧B≤wr.heap.size
 old:∀j,j+1<rs.length→∃g c,hs[j]?=some (.slice (some ⟨g,0,none⟩) (run rs j).length c)∧g<B∧wr.ownsRow W.heap.size 3 1 (.slice (some ⟨g,0,none⟩) (run rs j).length c) (run rs j).length (intsN (run rs j))
 last:∀j,j+1=rs.length→∃g c,hs[j]?=some (.slice (some ⟨g,0,none⟩) (run rs j).length c)∧wr.ownsRow B 3 1 (.slice (some ⟨g,0,none⟩) (run rs j).length c) (run rs j).length (intsN (run rs j))
 nl:rs.length=0→v=.slice none 0 0
theorem RW.fr0 {W wr w':World}{v:Value}{rs:List (List Nat)}{hs:List Value}{B:Nat}(h:RW W wr v rs hs B)(hf:Fr [] wr w'):RW W w' v rs hs B :=
 ⟨h.fr.trans hf,owns_fr0 h.own hf,⟨h.b0.1,Nat.le_trans h.b0.2 hf.size⟩,
  fun j hj=>by obtain⟨g,c,a1,a2,a3⟩:=h.old j hj;exact⟨g,c,a1,a2,owns_fr0 a3 hf⟩,
  fun j hj=>by obtain⟨g,c,a1,a2⟩:=h.last j hj;exact⟨g,c,a1,owns_fr0 a2 hf⟩,h.nl⟩
theorem RW.start (W:World):RW W W (.slice none 0 0) [] [] W.heap.size :=
 ⟨Fr.refl _ _,World.ownsRow_nil _ _ _ _,⟨Nat.le_refl _,Nat.le_refl _⟩,fun j h=>absurd h (by simp),fun j h=>absurd h (by simp),fun _=>rfl⟩
theorem RW.len {W wr:World}{v:Value}{rs:List (List Nat)}{hs:List Value}{B:Nat}(h:RW W wr v rs hs B):hs.length=rs.length:=by have:=h.own.1;omega
theorem run_set {rs:List (List Nat)}{m:Nat}(hm:m<rs.length)(r:List Nat)(j:Nat):run (rs.set m r) j=if j=m then r else run rs j:=by
 unfold run;by_cases h:j=m
 ·subst h;rw[List.getElem?_set_self hm,if_pos rfl];rfl
 ·rw[List.getElem?_set_ne (fun e=>h e.symm),if_neg h]
theorem run_snoc (rs:List (List Nat))(r:List Nat)(j:Nat)(hj:j≤rs.length):run (rs++[r]) j=if j=rs.length then r else run rs j:=by
 unfold run;by_cases h:j=rs.length
 ·subst h;rw[if_pos rfl];simp
 ·rw[if_neg h,List.getElem?_append_left (by omega)]
theorem RW.grow {W wr w1 w2:World}{rs:List (List Nat)}{hs:List Value}{B n m o cap g c l i:Nat}{r:List Nat}{v':Value}(h:RW W wr (.slice (some ⟨o,0,none⟩) n cap) rs hs B)(hn:n=rs.length)(hm:n=m+1)
 (ho0:wr.ownsRow B 3 1 (.slice (some ⟨g,0,none⟩) l c) l (intsN r)) (hl:l=r.length) (hf:Fr [] wr w1)
 (ho:w2.ownsRow B 3 1 v' (l+1) (intsN r++[.int .i64 (i:Nat)])) (hg:w1.grownBy w2 (some g)):RW W (w2.setCell ⟨o,m,none⟩ v') (.slice (some ⟨o,0,none⟩) n cap) (rs.set m (r++[i])) (hs.set m v') B:=by
 have h1:=h.fr0 hf;have hB:=(owns_at ho0).1;have hml:m<rs.length:=by omega
 have hao:o≠g:=owns_apart h1.own (owns_fr0 ho0 hf) (by decide) rfl rfl;have hown:=h1.own;rw[←hn]at hown;have hown2:=owns_grown hown hg (fun x hx e=>hao (by cases hx;cases e;rfl));obtain⟨hst,hgr⟩:=hown2.stored m v';have hfo:W.heap.size≤o:=(owns_at hown).1;have hvs:=owns_shape (by omega) ho;obtain⟨g',c',rfl⟩:=hvs;have hog':o≠g':=owns_apart hown2 ho (by decide) rfl rfl;refine⟨(h1.fr.grown hg (fun k e=>by cases e;have:=h1.b0.1;omega)).grown hgr (fun k e=>by cases e;exact hfo),?_,⟨h1.b0.1,?_⟩,fun j hj=>?_,fun j hj=>?_,fun h0=>?_⟩
 ·rw[List.length_set,←hn];exact hst
 ·have:=h1.b0.2;have:=hg.size;have:=hgr.size;omega
 ·rw[List.length_set]at hj
  obtain⟨gj,cj,a1,a2,a3⟩:=h1.old j hj;refine⟨gj,cj,?_,a2,?_⟩
  ·rw[run_set hml,if_neg (by omega),List.getElem?_set_ne (by omega)];exact a1
  ·rw[run_set hml,if_neg (by omega)]
   have hoj:o≠gj:=owns_apart h1.own a3 (by decide) rfl rfl;exact owns_grown (owns_grown a3 hg (fun x hx e=>by cases hx;have:gj=g:=Option.some.inj e;omega)) hgr (fun x hx e=>by cases hx;cases e;exact hoj rfl)
 ·rw[List.length_set]at hj
  have hjm:j=m:=by omega
  subst hjm;refine⟨g',c',?_,?_⟩
  ·rw[List.getElem?_set_self (by rw[h.len];omega),run_set hml,if_pos rfl,List.length_append,hl];rfl
  ·rw[run_set hml,if_pos rfl,List.length_append,←intsN_snoc]
   rw[hl]at ho;exact owns_grown ho hgr (fun x hx e=>by cases hx;cases e;exact hog' rfl)
 ·rw[List.length_set]at h0;omega
theorem RW.new {W wr w2 w3:World}{v v':Value}{rs:List (List Nat)}{hs:List Value}{B b l c:Nat}{r:List Nat}(h:RW W wr v rs hs B)(hf:Fr [] wr w2)(hl:l=r.length)(hb:w2.ownsRow wr.heap.size 3 1 (.slice (some ⟨b,0,none⟩) l c) l (intsN r))
 (ho:w3.ownsRow W.heap.size 32 1 v' (rs.length+1) (hs++[.slice (some ⟨b,0,none⟩) l c])) (hg:w2.grownBy w3 v.ownBlock):RW W w3 v' (rs++[r]) (hs++[.slice (some ⟨b,0,none⟩) l c]) wr.heap.size:=by
 have h1:=h.fr0 hf;refine⟨h1.fr.grown hg (fun k e=>(h1.own.lt k e).1),?_,⟨Nat.le_trans h.b0.1 h.b0.2,?_⟩,fun j hj=>?_,fun j hj=>?_,fun h0=>?_⟩
 ·rw[List.length_append];exact ho
 ·have:=hf.size;have:=hg.size;omega
 ·rw[List.length_append]at hj
  simp only[List.length_singleton]at hj;rw[run_snoc _ _ _ (by omega),if_neg (by omega),List.getElem?_append_left (by rw[h.len];omega)]
  rcases Nat.lt_or_ge (j+1) rs.length with hlt | hge
  ·obtain⟨gj,cj,a1,a2,a3⟩:=h1.old j hlt
   exact⟨gj,cj,a1,by have:=h.b0.2;omega,owns_grown a3 hg (fun x hx e=>owns_apart a3 h1.own (by decide) hx e.symm rfl)⟩
  ·obtain⟨gj,cj,a1,a2⟩:=h1.last j (by omega)
   obtain⟨gk,ck,b1,b2⟩:=h.last j (by omega);rw[a1]at b1;cases b1;exact⟨gj,cj,a1,(owns_at b2).2,owns_grown (owns_low a2 h.b0.1) hg (fun x hx e=>owns_apart a2 h1.own (by decide) hx e.symm rfl)⟩
 ·rw[List.length_append]at hj
  simp only[List.length_singleton]at hj;have hje:j=rs.length:=by omega
  subst hje;rw[run_snoc _ _ _ (by omega),if_pos rfl];subst hl;refine⟨b,c,by rw[←h.len];simp,owns_grown hb hg (fun x hx e=>owns_apart hb h1.own (by decide) hx e.symm rfl)⟩
 ·simp at h0
def rowsAt (w:World)(B:Nat)(v:Value)(rs:List (List Nat)):Prop :=
 (rs.length=0→v=.slice none 0 0)∧(0<rs.length→∃o cap,v=.slice (some ⟨o,0,none⟩) rs.length cap∧B≤o) ∧
 ∀o cap,v=.slice (some ⟨o,0,none⟩) rs.length cap→∀j,j<rs.length→∃g c,w.cell? ⟨o,j,none⟩=some (.slice (some ⟨g,0,none⟩) (run rs j).length c)∧B≤g∧w.ownsRow B 3 1 (.slice (some ⟨g,0,none⟩) (run rs j).length c) (run rs j).length (intsN (run rs j))
theorem RW.rows {W wr:World}{v:Value}{rs:List (List Nat)}{hs:List Value}{B:Nat}(h:RW W wr v rs hs B):rowsAt wr W.heap.size v rs:=by
 refine⟨h.nl,fun hp=>?_,fun o cap hv j hj=>?_⟩
 ·obtain⟨o,cap,rfl⟩:=owns_shape hp h.own
  exact⟨o,cap,rfl,(owns_at h.own).1⟩
 ·subst hv
  have hc:=h.own.cellAt j (by omega)
  rcases Nat.lt_or_ge (j+1) rs.length with hlt | hge
  ·obtain⟨g,c,a1,a2,a3⟩:=h.old j hlt
   exact⟨g,c,by rw[hc,a1],(owns_at a3).1,a3⟩
  ·obtain⟨g,c,a1,a2⟩:=h.last j (by omega)
   have:=owns_low a2 h.b0.1;exact⟨g,c,by rw[hc,a1],(owns_at this).1,this⟩
theorem run_facts (K L:List Int)(i:Nat)(rs:List (List Nat)) :
 (gone (nth K i)=true→runStep K L i rs=rs) ∧
 (gone (nth K i)=false→rs.length=0→runStep K L i rs=rs++[[i]]) ∧
 (∀m,gone (nth K i)=false→rs.length=m+1→nth L (lastN (run rs m))=nth L i→runStep K L i rs=rs.set m (run rs m++[i])) ∧
 (∀m,gone (nth K i)=false→rs.length=m+1→¬nth L (lastN (run rs m))=nth L i→runStep K L i rs=rs++[[i]]):=by
 refine⟨fun h=>?_,fun h h0=>?_,fun m h h0 h1=>?_,fun m h h0 h1=>?_⟩
 ·rw[runStep,if_pos h]
 ·have:rs=[]:=List.length_eq_zero_iff.1 h0
  subst this;rw[runStep,if_neg (by rw[h];exact Bool.false_ne_true),if_pos rfl];rfl
 ·have hne:rs≠[]:=by intro e;subst e;simp at h0
  rw[runStep,if_neg (by rw[h];exact Bool.false_ne_true),if_neg hne,h0];simp only[Nat.add_sub_cancel];rw[if_pos h1]
 ·have hne:rs≠[]:=by intro e;subst e;simp at h0
  rw[runStep,if_neg (by rw[h];exact Bool.false_ne_true),if_neg hne,h0];simp only[Nat.add_sub_cancel];rw[if_neg h1]
theorem runs_short (K L:List Int)(k:Nat):(runsTo K L k).length≤k∧∀r∈runsTo K L k,r.length≤k:=by
 have h:=run_inv K L k;have hf:(runsTo K L k).flatten.length≤k:=by
  rw[h.flat,ng];exact Nat.le_trans (List.length_filter_le _ _) (by simp)
 refine⟨?_,fun r hr=>?_⟩
 ·have:∀l:List (List Nat),(∀r∈l,r≠[])→l.length≤l.flatten.length:=by
   intro l
   induction l with
   | nil=>simp
   | cons a l ih =>
     intro hl;have h1:=ih (fun r hr=>hl r (List.mem_cons_of_mem _ hr));have h2:0<a.length:=List.length_pos_iff.2 (hl a List.mem_cons_self);rw[List.length_cons,List.flatten_cons,List.length_append];omega
  have:=this _ h.ne;omega
 ·have:r.length≤(runsTo K L k).flatten.length:=(List.sublist_flatten_of_mem hr).length_le
  omega
end Go.Proofs.YtnakejhohdbfdacGreatDoor

import Derived.Test.YtnakejhohdbfdaaGreatDoorXMd
import Derived.Test.YtnakejhohdbfdaaGreatDoorXRsM
import Derived.Test.YtnakejhohdbfdaaGreatDoorXRsK
import Derived.Test.YtnakejhohdbfdaaGreatDoorXRsJ
import Derived.Test.YtnakejhohdbfdaaGreatDoorXRsE
import Derived.Test.YtnakejhohdbfdaaGreatDoorXRsF
import Derived.Test.YtnakejhohdbfdaaGreatDoorXMa
import Derived.Test.YtnakejhohdbfdaaGreatDoorXMc
import Derived.Test.YtnakejhohdbfdaaGreatDoorXMb
import Derived.Deep.RegionLawGrows
namespace Go.Proofs.YtnakejhohdbfdaaGreatDoor
open Go.RowKit Lev
theorem fill_next' (I:List Nat)(k j:Nat)(v:Int)(C:List Int)(h:k≤j):fillTo I k v (j+1 - k) C=put I (fillTo I k v (j - k) C) j v:=by
 rw[show j+1 - k=(j - k)+1 by omega,fillTo,show k+(j - k)=j by omega]
theorem isNe_eq (c:Int):isNe c=decide (side c<0):=rfl
set_option linter.unusedSimpArgs false in
set_option maxRecDepth 10000 in
set_option maxHeartbeats 8000000 in
theorem ref18_any (q:PH)(C L:List Int)(G:List Bool)(bI cI:Nat)(s:Sq)(w:World)(hs:PS w q C L G)(hI:IS w q bI s.I)(h0:0<s.I.length)(hinj:inj s.I) :
 Calls Tryz.prog 49 #[.pointer (some ⟨q.p,0,none⟩),sqV bI cI s] w fun e w'=>e=.returned (.tuple #[])∧PS w' q (neutral s C) L G∧Fr [q.bC] w w':=by
 have lp:=hs.lt;have sm:=hI.sm;have nC:=hs.neC.1;have nI:=hI.ne.1;have HS:=hid hs;have HI:=hid hI;obtain⟨R,hR⟩:∃R,R=neutral s C:=⟨_,rfl⟩;have HR:=hid hR;rw[←hR];obtain⟨m,hm⟩:∃m,m=s.I.length:=⟨_,rfl⟩;have HM:=hid hm;have HV:=hid (show sqV bI cI s=.agg #[.slice (some ⟨bI,0,none⟩) m cI,.int .i64 s.own,.int .i64 s.bef,.int .i64 s.aft] by rw[hm]);rw[HV.out];rw[←hm]at sm;have hm0:0<m:=by rw[hm];exact h0
 have hn0:0<q.n:=by have:=hI.lt 0 h0;omega
 have HINJ:=hid hinj;clear hm hR hs hI h0 hinj
 have HX0:=hid (show boxAt (w.alloc (.cells #[.slice (some ⟨bI,0,none⟩) m cI,.int .i64 s.own,.int .i64 s.bef,.int .i64 s.aft] 101)) w.heap.size bI m cI s.own s.bef s.aft from fun j v hv=>by
  rw[World.cell?_alloc_at _ _ _ _ rfl];exact hv)
 have HBC:=hid (show w.heap.size ∉ [q.bC]from fun h=>by
  have:=HS.out.ltC hn0;have:=List.mem_singleton.1 h;omega)
 go_enter Tryz.func49,Tryz.ntmps49;go_wp2;go_loopw [5] (fun a wr=>∃(k:Nat) (C':List Int),a=.int .i64 k∧k≤m∧Hid (refScan s.I isNe (neAct s) C k C')∧Hid (PS wr q C' L G)∧Hid (Fr [q.bC] w wr)∧Hid (boxAt wr w.heap.size bI m cI s.own s.bef s.aft)) (fun a _=>m - (intOf a).toNat)
 case atStart=>exact⟨0,C,rfl,Nat.zero_le _,hid (rs_start _ _ _ _),hid (HS.out.alloc _),hid ((Fr.refl _ w).alloc _),HX0⟩
 case round =>
  obtain⟨k,C',rfl,hk,HRS,HP,HF,HX⟩:=hrel;have x0:=HX.out 0 _ rfl;have d2:=HP.out.c2;by_cases hlt:k<m
  ·obtain⟨hi,e1,e2,e3,e4⟩:=at_k HP.out HI.out HF.out (show k<s.I.length by rw[←HM.out];exact hlt)
   have HSK:=hid (fun h=>rs_skip (show k<s.I.length by rw[←HM.out];exact hlt) (show isNe (cl s.I C' k)=false from h) HRS.out);dsimp only[cl]at HSK;have HC40:=hid (ref40_any (nth C' (nix s.I k)));by_cases h5:side (nth C' (nix s.I k))<0
   ·have HFK0:=hid h5
    generalize hix:nix s.I k=i at *;have HIX:=hid hix;clear hix;generalize hy:nth C' i=y at *;have HY:=hid hy;clear hy;generalize hsy:side y=sy at *;have HSY:=hid hsy;clear hsy;have h5':¬(0:Int)≤sy:=by omega
    go_wp2;go_quiet (first | (go_at_call 92;exact Calls.quiet_of_same (HC40.out _)));go_wp2;go_loopw [6,7] (fun b a wr=>∃(e:Nat),a=.int .i64 e∧k≤e∧e≤m∧Hid (∀j,k≤j→j<e→isNe (cl s.I C' j)=true)∧Hid (PS wr q C' L G)∧Hid (Fr [q.bC] w wr)∧Hid (boxAt wr w.heap.size bI m cI s.own s.bef s.aft)) (fun _ a _=>m - (intOf a).toNat)
    case atStart=>exact⟨k,rfl,Nat.le_refl _,hk,hid (fun j h1 h2=>by omega),hid (HP.out.fr0 (frz _ _ _ rfl rfl rfl rfl)),hid (HF.out.trans (frz _ _ _ rfl rfl rfl rfl)),hid (HX.out.fr (S:=[]) (frz _ _ _ rfl rfl rfl rfl) List.not_mem_nil)⟩
    case round =>
     obtain⟨e,rfl,hke,hem,HE,HP2,HF2,HX2⟩:=hrel;have x0':=HX2.out 0 _ rfl;have x1':=HX2.out 1 _ rfl;have x2':=HX2.out 2 _ rfl;have x3':=HX2.out 3 _ rfl;have d2':=HP2.out.c2;have HCA:=hid (ref37_any q C' L G bI cI s ((k:Int) - 1));rw[HV.out,clsAt_ah s C' k (by rw[←HM.out];exact hk)]at HCA;have HCB:=hid (ref37_any q C' L G bI cI s (e:Int));rw[HV.out,clsAt_att]at HCB;have HNA:=hid (show neAct s k e C'=fillTo s.I k (if side (ah s C' k)=side (att s C' e)then side (ah s C' k)else s.own) (e - k) C' from rfl)
     rcases Nat.lt_or_ge e m with h1 | h1
     ·obtain⟨hj,f1,f2,f3,f4⟩:=at_k HP2.out HI.out HF2.out (show e<s.I.length by rw[←HM.out];exact h1)
      have HC40e:=hid (ref40_any (nth C' (nix s.I e)));by_cases h2:side (nth C' (nix s.I e))<0
      ·have HE2:=hid (show ∀j,k≤j→j<e+1→isNe (cl s.I C' j)=true from fun j a b=>by
        rcases Nat.lt_or_eq_of_le (Nat.le_of_lt_succ b)with h | h
        ·exact HE.out j a h
        ·rw[h,cl,isNe_eq];exact decide_eq_true h2)
       generalize nix s.I e=ie at *;generalize nth C' ie=ye at *;generalize side ye=se at *;have h2':¬(0:Int)≤se:=by omega
       clear f3 f4 HCA HCB HNA x1' x2' x3';go_wp2;go_quiet (first | (go_at_call 92;exact Calls.quiet_of_same (HC40e.out _)));go_wp2;go_roundw
       case rel=>exact⟨e+1,by go_num,by omega,by omega,HE2,hid (HP2.out.fr0 (frz _ _ _ rfl rfl rfl rfl)),hid (HF2.out.trans (frz _ _ _ rfl rfl rfl rfl)),hid (HX2.out.fr (S:=[]) (frz _ _ _ rfl rfl rfl rfl) List.not_mem_nil)⟩
       case measure=>simp[intOf];omega
      ·have hx2:k<e:=by
        rcases Nat.lt_or_eq_of_le hke with h3 | h3
        ·exact h3
        ·exfalso;exact h2 (by rw[←h3,HIX.out,HY.out,HSY.out];exact HFK0.out)
       have HTK:=hid (rs_take (fun a k C h1 h2=>neAct_at HINJ.out a k C h1 h2) hx2 (show e≤s.I.length by rw[←HM.out];exact hem) HE.out (.inr (by rw[cl,isNe_eq];exact decide_eq_false h2)) HRS.out);generalize nix s.I e=ie at *;generalize nth C' ie=ye at *;generalize side ye=se at *;have h2':(0:Int)≤se:=by omega
       clear f3 f4;go_wp2_with fail;go_quiet (first | (go_at_call 92;exact Calls.quiet_of_same (HC40e.out _)));go_wp2_with fail;refine(HCA.out _ ?_ ?_).mono ?_
       ·exact HP2.out.fr0 (frz _ _ _ rfl rfl rfl rfl)
       ·exact HI.out.fr (HF2.out.trans (frz _ _ _ rfl rfl rfl rfl)) (fun e=>nI (List.mem_singleton.1 e))
       rintro e' w1 ⟨rfl,hf1⟩;have HF3:=hid (HF2.out.trans (w'':=w1) ⟨hf1.os,hf1.tape,hf1.output,hf1.size,fun k h1 _=>hf1.block k h1 List.not_mem_nil⟩);have HP3:=hid (HP2.out.fr0 (w':=w1) ⟨hf1.os,hf1.tape,hf1.output,hf1.size,hf1.block⟩);have HX3:=hid (HX2.out.fr (S:=[]) (w':=w1) ⟨hf1.os,hf1.tape,hf1.output,hf1.size,hf1.block⟩ List.not_mem_nil);have y0:=HX3.out 0 _ rfl;have y1:=HX3.out 1 _ rfl;have y2:=HX3.out 2 _ rfl;have y3:=HX3.out 3 _ rfl;clear hf1;go_wp2_with fail;refine(ref40_any _ _).mono ?_;rintro e' w1' ⟨rfl,rfl⟩;go_wp2_with fail;refine(HCB.out _ HP3.out (HI.out.fr HF3.out (fun e=>nI (List.mem_singleton.1 e)))).mono ?_;rintro e' w2 ⟨rfl,hf2⟩;have HF4:=hid (HF3.out.trans (hf2.mono (fun _ h _=>absurd h List.not_mem_nil)));have HP4:=hid (HP3.out.fr0 hf2);have HX4:=hid (HX3.out.fr hf2 List.not_mem_nil);have z1:=HX4.out 1 _ rfl;clear hf2 y0 y1 y2 y3;go_wp2_with fail;refine(ref40_any _ _).mono ?_;rintro e' w2' ⟨rfl,rfl⟩;generalize side (ah s C' k)=sa at *;generalize side (att s C' e)=sb at *;obtain⟨v,hv⟩:∃v,v=if sa=sb then sa else s.own:=⟨_,rfl⟩
       have HVV:=hid hv;rw[←hv]at HNA;clear hv;by_cases hsab:sa=sb
       case' pos =>
        subst hsab;have HW:=hid (show v=sa by rw[HVV.out,if_pos rfl])
       case' neg =>
        have HW:=hid (show v=s.own by rw[HVV.out,if_neg hsab])
       all_goals (
        go_wp2
        go_loopw [11] (fun a wr=>∃(j:Nat),a=.int .i64 j∧k≤j∧j≤e∧Hid (PS wr q (fillTo s.I k v (j - k) C') L G)∧Hid (Fr [q.bC] w wr)∧Hid (boxAt wr w.heap.size bI m cI s.own s.bef s.aft)) (fun a _=>e - (intOf a).toNat)
        case atStart=>exact⟨k,rfl,Nat.le_refl _,hke,hid (by rw[Nat.sub_self];exact HP4.out),HF4,HX4⟩
        case round =>
         obtain⟨j,rfl,hkj,hje,HP5,HF5,HX5⟩:=hrel
         have x05:=HX5.out 0 _ rfl
         have d25:=HP5.out.c2
         rcases Nat.lt_or_ge j e with hjl | hjl
         ·obtain⟨hjj,p1,p2,p3,p4⟩:=at_k HP5.out HI.out HF5.out (show j<s.I.length by rw[←HM.out];omega)
          have HC3:=hid (fill_next' s.I k j v C' hkj)
          have HSZ:=hid (fun z=>HP5.out.setC hjj z)
          generalize hfj:fillTo s.I k v (j+1 - k) C'=F2 at *
          have HFJ:=hid hfj
          clear hfj
          generalize fillTo s.I k v (j - k) C'=C3 at *
          dsimp only[put]at HC3
          generalize nix s.I j=ij at *
          generalize nth C3 ij=yj at *
          clear p4
          go_wp2
          go_region
          go_wp2
          go_roundw
          case rel=>exact⟨j+1,by go_num,by omega,by omega,hid (by rw[HFJ.out,HC3.out,HW.out];exact(HSZ.out _).fr0 (frz _ _ _ rfl rfl rfl rfl)),hid ((HF5.out.set (List.mem_singleton.2 rfl) _).trans (frz _ _ _ rfl rfl rfl rfl)),hid ((HX5.out.fr (fr_set1 _ q.bC ij _) HBC.out).fr (S:=[]) (frz _ _ _ rfl rfl rfl rfl) List.not_mem_nil)⟩
          case measure=>simp[intOf];omega
         ·have hje2:j=e:=by omega
          have HP6:=hid (show PS wr q (neAct s k e C') L G by rw[HNA.out,←hje2];exact HP5.out)
          have hjd:¬(j:Int)<(e:Int):=by omega
          clear hje2
          go_wp2
          go_roundw
          case rel=>exact⟨e,neAct s k e C',by go_num,hem,HTK,HP6,HF5,HX5⟩
          case measure=>simp[intOf];omega)
     ·have hx2:k<e:=by omega
      have HTK:=hid (rs_take (fun a k C h1 h2=>neAct_at HINJ.out a k C h1 h2) hx2 (show e≤s.I.length by rw[←HM.out];exact hem) HE.out (.inl (by rw[←HM.out];omega)) HRS.out);have h1':¬(e:Int)<(m:Int):=by omega
      go_wp2_with fail;refine(HCA.out _ ?_ ?_).mono ?_
      ·exact HP2.out.fr0 (frz _ _ _ rfl rfl rfl rfl)
      ·exact HI.out.fr (HF2.out.trans (frz _ _ _ rfl rfl rfl rfl)) (fun e=>nI (List.mem_singleton.1 e))
      rintro e' w1 ⟨rfl,hf1⟩;have HF3:=hid (HF2.out.trans (w'':=w1) ⟨hf1.os,hf1.tape,hf1.output,hf1.size,fun k h1 _=>hf1.block k h1 List.not_mem_nil⟩);have HP3:=hid (HP2.out.fr0 (w':=w1) ⟨hf1.os,hf1.tape,hf1.output,hf1.size,hf1.block⟩);have HX3:=hid (HX2.out.fr (S:=[]) (w':=w1) ⟨hf1.os,hf1.tape,hf1.output,hf1.size,hf1.block⟩ List.not_mem_nil);have y0:=HX3.out 0 _ rfl;have y1:=HX3.out 1 _ rfl;have y2:=HX3.out 2 _ rfl;have y3:=HX3.out 3 _ rfl;clear hf1;go_wp2_with fail;refine(ref40_any _ _).mono ?_;rintro e' w1' ⟨rfl,rfl⟩;go_wp2_with fail;refine(HCB.out _ HP3.out (HI.out.fr HF3.out (fun e=>nI (List.mem_singleton.1 e)))).mono ?_;rintro e' w2 ⟨rfl,hf2⟩;have HF4:=hid (HF3.out.trans (hf2.mono (fun _ h _=>absurd h List.not_mem_nil)));have HP4:=hid (HP3.out.fr0 hf2);have HX4:=hid (HX3.out.fr hf2 List.not_mem_nil);have z1:=HX4.out 1 _ rfl;clear hf2 y0 y1 y2 y3;go_wp2_with fail;refine(ref40_any _ _).mono ?_;rintro e' w2' ⟨rfl,rfl⟩;generalize side (ah s C' k)=sa at *;generalize side (att s C' e)=sb at *;obtain⟨v,hv⟩:∃v,v=if sa=sb then sa else s.own:=⟨_,rfl⟩
      have HVV:=hid hv;rw[←hv]at HNA;clear hv;by_cases hsab:sa=sb
      case' pos =>
          subst hsab;have HW:=hid (show v=sa by rw[HVV.out,if_pos rfl])
      case' neg =>
          have HW:=hid (show v=s.own by rw[HVV.out,if_neg hsab])
      all_goals (
          go_wp2
          go_loopw [11] (fun a wr=>∃(j:Nat),a=.int .i64 j∧k≤j∧j≤e∧Hid (PS wr q (fillTo s.I k v (j - k) C') L G)∧Hid (Fr [q.bC] w wr)∧Hid (boxAt wr w.heap.size bI m cI s.own s.bef s.aft)) (fun a _=>e - (intOf a).toNat)
          case atStart=>exact⟨k,rfl,Nat.le_refl _,hke,hid (by rw[Nat.sub_self];exact HP4.out),HF4,HX4⟩
          case round =>
           obtain⟨j,rfl,hkj,hje,HP5,HF5,HX5⟩:=hrel
           have x05:=HX5.out 0 _ rfl
           have d25:=HP5.out.c2
           rcases Nat.lt_or_ge j e with hjl | hjl
           ·obtain⟨hjj,p1,p2,p3,p4⟩:=at_k HP5.out HI.out HF5.out (show j<s.I.length by rw[←HM.out];omega)
            have HC3:=hid (fill_next' s.I k j v C' hkj)
            have HSZ:=hid (fun z=>HP5.out.setC hjj z)
            generalize hfj:fillTo s.I k v (j+1 - k) C'=F2 at *
            have HFJ:=hid hfj
            clear hfj
            generalize fillTo s.I k v (j - k) C'=C3 at *
            dsimp only[put]at HC3
            generalize nix s.I j=ij at *
            generalize nth C3 ij=yj at *
            clear p4
            go_wp2
            go_region
            go_wp2
            go_roundw
            case rel=>exact⟨j+1,by go_num,by omega,by omega,hid (by rw[HFJ.out,HC3.out,HW.out];exact(HSZ.out _).fr0 (frz _ _ _ rfl rfl rfl rfl)),hid ((HF5.out.set (List.mem_singleton.2 rfl) _).trans (frz _ _ _ rfl rfl rfl rfl)),hid ((HX5.out.fr (fr_set1 _ q.bC ij _) HBC.out).fr (S:=[]) (frz _ _ _ rfl rfl rfl rfl) List.not_mem_nil)⟩
            case measure=>simp[intOf];omega
           ·have hje2:j=e:=by omega
            have HP6:=hid (show PS wr q (neAct s k e C') L G by rw[HNA.out,←hje2];exact HP5.out)
            have hjd:¬(j:Int)<(e:Int):=by omega
            clear hje2
            go_wp2
            go_roundw
            case rel=>exact⟨e,neAct s k e C',by go_num,hem,HTK,HP6,HF5,HX5⟩
            case measure=>simp[intOf];omega)
   ·have HN:=hid (HSK.out (by rw[isNe_eq];exact decide_eq_false h5))
    generalize nix s.I k=i at *;generalize nth C' i=y at *;generalize side y=sy at *;have h5':(0:Int)≤sy:=by omega
    go_wp2;go_quiet (first | (go_at_call 92;exact Calls.quiet_of_same (HC40.out _)));go_wp2;go_roundw
    case rel=>exact⟨k+1,C',by go_num,by omega,HN,hid (HP.out.fr0 (frz _ _ _ rfl rfl rfl rfl)),hid (HF.out.trans (frz _ _ _ rfl rfl rfl rfl)),hid (HX.out.fr (S:=[]) (frz _ _ _ rfl rfl rfl rfl) List.not_mem_nil)⟩
    case measure=>simp[intOf];omega
  ·have hk2:k=s.I.length:=by rw[←HM.out];omega
   have HSC:=hid (show neutral s C=C' from rs_end (by rw[←hk2];exact HRS.out));have HPZ:=hid (show PS wr q R L G by rw[HR.out,HSC.out];exact HP.out);clear hk2;go_wp2;go_end0;exact⟨rfl,HPZ.out,HF.out⟩
def Rl (s:ByteArray)(n:Nat):List Int:=(List.range n).map (Dec.rune s)
def Kl (s:ByteArray)(n:Nat):List Int:=(List.range n).map (fun i=>Tabs.look Tabs.classTab (Dec.rune s i))
theorem Kl_len (s:ByteArray)(n:Nat):(Kl s n).length=n:=by simp[Kl]
theorem Kl_succ (s:ByteArray)(n:Nat):Kl s (n+1)=Kl s n++[Tabs.look Tabs.classTab (Dec.rune s n)]:=by simp[Kl,List.range_succ]
theorem Rl_at (s:ByteArray){n i:Nat}(h:i<n):nth (Rl s n) i=Dec.rune s i:=by simp[nth,Rl,h]
def mtOf (K:List Int)(i:Nat):Int:=if ini (nth K i)then mateI (mate K i)else -1
def Ml (K:List Int)(n:Nat):List Int:=(List.range n).map (mtOf K)
theorem Ml_succ (K:List Int)(n:Nat):Ml K (n+1)=Ml K n++[mtOf K n]:=by simp[Ml,List.range_succ]
theorem Ml_len (K:List Int)(n:Nat):(Ml K n).length=n:=by simp[Ml]
theorem Ml_at (K:List Int){n i:Nat}(h:i<n):nth (Ml K n) i=mtOf K i:=by simp[nth,Ml,h]
theorem info4:(Tryz.prog.info? 4).map (fun i=>(i.zero,i.size,i.bytes))=some (some (.bool false),1,1):=by kernel_rfl
def intsZ (l:List Int):List Value:=l.map (Value.int .i64)
theorem intsZ_snoc (l:List Int)(x:Int):intsZ l++[.int .i64 x]=intsZ (l++[x]):=by simp[intsZ]
theorem intsZ_len (l:List Int):(intsZ l).length=l.length:=by simp[intsZ]
theorem intsZ_at {l:List Int}{j:Nat}(h:j<l.length):(intsZ l)[j]?=some (.int .i64 (nth l j)):=by
 rw[intsZ,List.getElem?_map,List.getElem?_eq_getElem h];simp[nth,List.getElem?_eq_getElem h]
theorem intsZ_one (l:List Int):∀u∈intsZ l,u.oneCell'=true:=by
 intro u hu;obtain⟨x,_,rfl⟩:=List.mem_map.1 hu;rfl
theorem owns_rowAt {w:World}{B:Nat}{n g cap:Nat}{l:List Int}(h:w.ownsRow B 3 1 (.slice (some ⟨g,0,none⟩) n cap) n (intsZ l))(hl:l.length=n):rowAt w g n l:=by
 intro i hi;rw[h.cellAt i (by omega),intsZ_at (by omega)]
def pobj (w:World)(p:Nat)(cs:Array Value):Prop:=w.heap[p]?=some (.cells cs 32 (0,0))
theorem pobj.cell {w:World}{p:Nat}{cs:Array Value}(h:pobj w p cs){i:Nat}{v:Value}(hv:cs[i]?=some v):w.cell? ⟨p,i,none⟩=some v:=by
 rw[cell_of_row w p i cs 32 (0,0) h];exact hv
theorem pobj.froz {w:World}{p:Nat}{cs:Array Value}(h:pobj w p cs)(i:Nat):w.frozen? ⟨p,i,none⟩=false:=frozen_of_row w p i cs 32 h
theorem pobj.fr {S:List Nat}{w w':World}{p:Nat}{cs:Array Value}(h:pobj w p cs)(hf:Fr S w w')(hp:p ∉ S):pobj w' p cs:=(hf.block p (Array.getElem?_eq_some_iff.1 h).1 hp).trans h
theorem pobj.grown {w w':World}{row:Option Nat}{p:Nat}{cs:Array Value}(h:pobj w p cs)(hg:w.grownBy w' row)(hp:some p≠row):pobj w' p cs:=(hg.block p (Array.getElem?_eq_some_iff.1 h).1 hp).trans h
theorem pobj.set {w:World}{p:Nat}{cs:Array Value}(h:pobj w p cs)(i:Nat)(v:Value):pobj (w.setCell ⟨p,i,none⟩ v) p (cs.setIfInBounds i v):=heap_setCell_same w p i cs 32 v h
theorem pobj.lt {w:World}{p:Nat}{cs:Array Value}(h:pobj w p cs):p<w.heap.size:=(Array.getElem?_eq_some_iff.1 h).1
theorem made_at (w:World)(b n:Nat)(z:Value)(e:TypeId)(h:w.heap[b]?=some (.cells (madeCells #[z] n) e (0,0))){i:Nat}(hi:i<n):w.cell? ⟨b,i,none⟩=some z∧w.frozen? ⟨b,i,none⟩=false:=by
 refine⟨?_,frozen_of_row w b i _ e h⟩;rw[cell_of_row w b i _ e (0,0) h,←Array.getElem?_toList,toList_madeCells_one];simp[hi]
theorem three_blocks (W:World)(a b c:Obj):(((W.alloc a).alloc b).alloc c).heap[W.heap.size]?=some a∧(((W.alloc a).alloc b).alloc c).heap[W.heap.size+1]?=some b∧(((W.alloc a).alloc b).alloc c).heap[W.heap.size+1+1]?=some c:=by
 have e1:(W.alloc a).heap.size=W.heap.size+1:=by simp
 have e2:((W.alloc a).alloc b).heap.size=W.heap.size+1+1:=by simp
 refine⟨?_,?_,?_⟩
 ·rw[heap_alloc_old _ _ (by omega),heap_alloc_old _ _ (by omega)];exact heap_alloc_new W a
 ·rw[heap_alloc_old _ _ (by omega),←e1];exact heap_alloc_new _ b
 ·rw[←e2];exact heap_alloc_new _ c
theorem PS.make {w:World}{p bR bF bC bL bM bG cR cF cC cM n B:Nat}{R K M:List Int}{base:Int}(hp:pobj w p #[.slice (some ⟨bR,0,none⟩) n cR,.slice (some ⟨bF,0,none⟩) n cF,.slice (some ⟨bC,0,none⟩) n cC,.slice (some ⟨bL,0,none⟩) n n,.slice (some ⟨bM,0,none⟩) n cM,.slice (some ⟨bG,0,none⟩) n n,.int .i64 base])
 (hR:rowR w bR n R) (hF:rowAt w bF n K) (hC:w.ownsRow B 3 1 (.slice (some ⟨bC,0,none⟩) n cC) n (intsZ K)) (hM:rowAt w bM n M) (hL:w.heap[bL]?=some (.cells (madeCells #[.int .i64 0] n) 3 (0,0))) (hG:w.heap[bG]?=some (.cells (madeCells #[.bool false] n) 4 (0,0))) (hK:K.length=n)
 (neC:bC≠p∧bC≠bR∧bC≠bF∧bC≠bM) (neL:bL≠p∧bL≠bR∧bL≠bF∧bL≠bM) (neG:bG≠p∧bG≠bR∧bG≠bF∧bG≠bM) (neX:bC≠bL∧bC≠bG∧bL≠bG) :
 PS w ⟨p,bR,bF,bC,bL,bM,bG,cR,cF,cC,n,cM,n,n,R,K,M,base⟩ K (List.replicate K.length 0) (gAt K 0) where
 c0:=hp.cell (i:=0) rfl
 c1:=hp.cell (i:=1) rfl
 c2:=hp.cell (i:=2) rfl
 c3:=hp.cell (i:=3) rfl
 c4:=hp.cell (i:=4) rfl
 c5:=hp.cell (i:=5) rfl
 c6:=hp.cell (i:=6) rfl
 rR:=hR
 rF:=hF
 rM:=hM
 rC:=owns_rowAt hC hK
 rL:=fun i hi=>by
  rw[(made_at w bL n _ 3 hL hi).1];have:nth (List.replicate K.length 0) i=0:=by
   have h:i<K.length:=by rw[hK];exact hi
   simp[nth,h]
  rw[this]
 rG:=fun i hi=>by
  rw[(made_at w bG n _ 4 hG hi).1];have h:i<K.length:=by rw[hK];exact hi
  simp[gAt,h]
 sC:=fun i _=>hC.frozenAt i
 sL:=fun i hi=>(made_at w bL n _ 3 hL hi).2
 sG:=fun i hi=>(made_at w bG n _ 4 hG hi).2
 lC:=hK
 lL:=by rw[List.length_replicate];exact hK
 lG:=by rw[gAt_len];exact hK
 neC:=neC
 neL:=neL
 neG:=neG
 neX:=neX
theorem seqs_short {K:List Int}{rs:List (List Nat)}{N:Nat}(h:rs.length≤N):(seqs K rs).length≤N:=by
 have:∀m,(seqsTo K rs m).length≤m:=by
  intro m
  induction m with
  | zero=>simp[seqsTo]
  | succ m ih =>
    rw[seqsTo];split
    ·rw[List.length_append];simp;omega
    ·omega
 exact Nat.le_trans (this rs.length) h
def rowP (w:World)(g n:Nat)(P:Nat→Nat):Prop:=∀i,i<n→w.cell? ⟨g,i * 3+1,none⟩=some (.int .i64 (P i:Nat))
theorem rowP.fr {S:List Nat}{w w':World}{g n:Nat}{P:Nat→Nat}(h:rowP w g n P)(hf:Fr S w w')(hg:g ∉ S):rowP w' g n P:=fun i hi=>hf.cell (h i hi) hg
set_option linter.unusedSimpArgs false in
set_option maxRecDepth 10000 in
set_option maxHeartbeats 8000000 in
theorem ref5_full (s:ByteArray)(b:Int)(w:World)(hs:s.size≤1000000)(hT:Lib.Utf8Tabs 1 2 w)(n:Nat)(hend:Dec.Ends s n)(h0:0<n)(hb:b=0∨b=1∨b=2) :
 Calls Tryz.prog 11 #[.string s,.int .i64 b] w fun e w'=>∃(q:PH) (C:List Int) (G:List Bool),e=.returned (.pointer (some ⟨q.p,0,none⟩))∧PS w' q C (levels (Rl s n) (Kl s n) (baseOf (Kl s n) b)) G∧q.n=n∧q.K=Kl s n∧q.base=baseOf (Kl s n) b∧(∀i,i<n→(G[i]?).getD false=gone (nth (Kl s n) i))∧rowP w' q.bR n (Dec.pos s)∧Fr [] w w':=by
 have HD:=hid (Cls.ref7_any s w hs hT);have HE:=hid hend;have hns:n≤1000000:=by have:=Dec.le_pos s n;have:=hend.1;omega
 obtain⟨bs,hbs⟩:∃bs,bs=baseOf (Kl s n) b:=⟨_,rfl⟩;obtain⟨LL,hLL⟩:∃LL,LL=levels (Rl s n) (Kl s n) bs:=⟨_,rfl⟩;rw[←hbs,←hLL];have HBS:=hid hbs;have HLL:=hid hLL;have hbs01:bs=0∨bs=1:=by rw[hbs,baseOf];split;(split;exact .inr rfl;exact .inl rfl);omega
 clear hT hend hbs hLL;go_enter Tryz.func11,Tryz.ntmps11;go_wp2_with fail;refine HD.out.mono ?_;rintro e W ⟨n',v,hn',rfl,own,hbel,hnil⟩;obtain rfl:=Dec.ends_unique HE.out hn';obtain⟨bR,cR,hv⟩:=owns_shape h0 own;subst hv;have HW:=hid (Fr.of_below (S:=[]) hbel);have HO:=hid own;clear own hbel hnil hn' HD;obtain⟨i3,hi3,hz30,hz31,hz32⟩:=info_parts info3;obtain⟨i4,hi4,hz40,hz41,hz42⟩:=info_parts info4;obtain⟨ZL,hZL⟩:∃ZL,ZL=madeCells #[.int .i64 0] n:=⟨_,rfl⟩;obtain⟨ZG,hZG⟩:∃ZG,ZG=madeCells #[.bool false] n:=⟨_,rfl⟩;have hmk1:∀X:World,(Instr.makeSlice 22 (.int .i64 n) (.int .i64 n)).run Tryz.prog X=.ok (.slice (some ⟨X.heap.size,0,none⟩) n n) (X.alloc (.cells ZL 3)):=fun X=>by
  have:=run_make (P:=Tryz.prog) X 22 3 i3 _ Tryz.underlying22 hi3 hz30 .i64 .i64 n n (by omega) (Int.le_refl _) (by rw[hz32];omega) (by omega);rw[hz31,Nat.mul_one]at this;rw[hZL];exact this
 have hmk2:∀X:World,(Instr.makeSlice 30 (.int .i64 n) (.int .i64 n)).run Tryz.prog X=.ok (.slice (some ⟨X.heap.size,0,none⟩) n n) (X.alloc (.cells ZG 4)):=fun X=>by
  have:=run_make (P:=Tryz.prog) X 30 4 i4 _ Tryz.underlying30 hi4 hz40 .i64 .i64 n n (by omega) (Int.le_refl _) (by rw[hz42];omega) (by omega);rw[hz41,Nat.mul_one]at this;rw[hZG];exact this
 have HZL:=hid hZL;have HZG:=hid hZG;clear hZL hZG;go_upto_region 3 with fail
 go_cut [7]from 21 to 28 (fun a wx=>∃p bL bG:Nat,a=.pointer (some ⟨p,0,none⟩)∧Hid (Fr [] W wx∧pobj wx p #[.slice (some ⟨bR,0,none⟩) n cR,.slice none 0 0,.slice none 0 0,.slice (some ⟨bL,0,none⟩) n n,.slice none 0 0,.slice (some ⟨bG,0,none⟩) n n,.int .i64 b]∧wx.heap[bL]?=some (.cells ZL 3 (0,0))∧wx.heap[bG]?=some (.cells ZG 4 (0,0))∧W.heap.size≤p∧W.heap.size≤bL∧W.heap.size≤bG))
 case first =>
  go_region
  all_goals go_wp2
  all_goals go_meet
  ·exact⟨W.heap.size+1+1,W.heap.size,W.heap.size+1,rfl,hid ⟨((((Fr.refl [] W).alloc _).alloc _).alloc _).drew,(three_blocks W _ _ _).2.2,(three_blocks W _ _ _).1,(three_blocks W _ _ _).2.1,by omega,by omega,by omega⟩⟩
  ·exact⟨W.heap.size+1+1,W.heap.size+1,W.heap.size,rfl,hid ⟨((((Fr.refl [] W).alloc _).alloc _).alloc _).drew,(three_blocks W _ _ _).2.2,(three_blocks W _ _ _).2.1,(three_blocks W _ _ _).1,by omega,by omega,by omega⟩⟩
 case rest =>
  obtain⟨p,bL,bG,rfl,HV⟩:=hcut;obtain⟨V1,hV1⟩:∃V1,V1=wc:=⟨_,rfl⟩;subst hV1;clear hmk1 hmk2;have HPO:=hid HV.out.2.1;have hpL:=HPO.out.lt
  have HRP:=hid (fun(X:World) (hf:Fr [p] V1 X)=>(show rowP X bR n (Dec.pos s)from fun i hi=>by
   have h1:=HO.out.cellAt (i * 3+1) (by omega)
   rw[(Dec.cells_at _ i _ (Dec.lst_at s n i hi)).2.1]at h1
   refine hf.cell (HV.out.1.cell h1 List.not_mem_nil) (fun h=>?_)
   have h2:=(owns_at HO.out).2
   have h3:=HV.out.2.2.2.2.1
   have h4:=List.mem_singleton.1 h
   omega))
  have HRR:=hid (fun(X:World) (hf:Fr [p] V1 X) i (hi:i<n)=>(show X.cell? ⟨bR,i * 3,none⟩=some (.int .i32 (Dec.rune s i)) by
   have h1:=HO.out.cellAt (i * 3) (by omega)
   rw[(Dec.cells_at _ i _ (Dec.lst_at s n i hi)).1]at h1
   refine hf.cell (HV.out.1.cell h1 List.not_mem_nil) (fun h=>?_)
   have h2:=(owns_at HO.out).2
   have h3:=HV.out.2.2.2.2.1
   have h4:=List.mem_singleton.1 h
   omega))
  go_wp2;go_loopw [8] (fun ii wr=>∃(i:Nat) (vF:Value),ii=.int .i64 i∧i≤n∧Hid (Fr [p] V1 wr)∧Hid (pobj wr p #[.slice (some ⟨bR,0,none⟩) n cR,vF,.slice none 0 0,.slice (some ⟨bL,0,none⟩) n n,.slice none 0 0,.slice (some ⟨bG,0,none⟩) n n,.int .i64 b])∧Hid (wr.ownsRow V1.heap.size 3 1 vF i (intsZ (Kl s i)))) (fun ii _=>n - (intOf ii).toNat)
  case atStart=>exact⟨0,_,rfl,Nat.zero_le _,hid (Fr.refl _ _),HPO,hid (World.ownsRow_nil _ _ _ _)⟩
  case round =>
   obtain⟨i,vF,rfl,hin,HF,HP,HOF⟩:=hrel;by_cases hlt:i<n
   ·have e1:=HRR.out wr HF.out i hlt
    have HCL:=hid (Cls.ref10_any (Dec.rune s i) wr);have HKS:=hid (Kl_succ s i);generalize Dec.rune s i=r at *;generalize Tabs.look Tabs.classTab r=c at *;have hiI:(i:Int)<(n:Int):=by omega
    have hsz:=HF.out.size;obtain⟨a1,c1,hv1⟩:=owns_slice HOF.out;subst hv1;go_wp2_with fail;refine HCL.out.mono ?_;rintro e w2 ⟨rfl,hb2⟩;have HF2:=hid (Fr.of_below (S:=[]) hb2);have HP2:=hid (HP.out.fr HF2.out List.not_mem_nil);have HOF2:=hid (owns_fr0 HOF.out HF2.out);have d1:=HP2.out.cell (i:=1) rfl;have hsz2:=HF2.out.size;have hpw2:=HP2.out.lt;clear hb2 e1 HCL;go_wp2_with (at_builtin;refine wpList_append_own _ rfl _ _ 22 rfl V1.heap.size 3 i3 _ 1 8 Tryz.underlying22 hi3 hz30 hz31 hz32 rfl (by decide) _ i (intsZ (Kl s i)) rfl ?own _ 1 1 [.int .i64 c] rfl rfl (news_at _ _ _ _ (by simp)) (one_cell _) (by unfold maxLen;omega) (by omega) ?szz ?_)
    case own=>exact owns_fr0 HOF2.out ((Fr.refl [] w2).alloc _)
    case szz=>simp;omega
    intro v' w3 own3 hgrow hnil;obtain⟨g',c',hv'⟩:=owns_shape (by omega) own3;subst hv';have hne:∀k,some k=(Value.slice a1 i c1).ownBlock→V1.heap.size≤k:=fun k hk=>(HOF2.out.lt k hk.symm).1
    have HP3:=hid ((HP2.out.fr ((Fr.refl [] w2).alloc (.cells #[.int .i64 c] 3)) List.not_mem_nil).grown hgrow (fun e=>by have:=hne p e;omega));have HF3:=hid (Fr.grown ((HF.out.trans (HF2.out.mono (fun _ h _=>absurd h List.not_mem_nil))).alloc (.cells #[.int .i64 c] 3)) hgrow (fun k hk=>hne k hk.symm));have f1:=HP3.out.cell (i:=1) rfl;have f2:=HP3.out.froz 1;have HO3:=hid own3;have hgp:p≠g':=by have:=(owns_at own3).1;omega
    clear own3 hgrow hnil hne d1;go_wp2;go_roundw
    case rel=>exact⟨i+1,_,by go_num,by omega,hid (HF3.out.set (List.mem_singleton.2 rfl) _),hid (HP3.out.set 1 _),hid (by rw[HKS.out,←intsZ_snoc];exact owns_fr HO3.out (fr_set1 _ p 1 _) (fun g hg hm=>by cases hg;exact hgp (List.mem_singleton.1 hm).symm))⟩
    case measure=>simp[intOf];omega
   ·have hie:n=i:=by omega
    subst hie;have hiI:¬(n:Int)<(n:Int):=by omega
    obtain⟨bF,cF,hvF⟩:=owns_shape h0 HOF.out;subst hvF;have d1:=HP.out.cell (i:=1) rfl;have d2:=HP.out.cell (i:=2) rfl;have f2:=HP.out.froz 2;have hpw:=HP.out.lt;have HKN:=hid (show(intsZ (Kl s n)).length=n * 1 by rw[intsZ_len,Kl_len];omega);clear hin;go_upto_region 9 with fail
    go_cut []from 50 to 61 (fun wx=>∃(bC cC:Nat),Hid (Fr [p] V1 wx)∧Hid (pobj wx p #[.slice (some ⟨bR,0,none⟩) n cR,.slice (some ⟨bF,0,none⟩) n cF,.slice (some ⟨bC,0,none⟩) n cC,.slice (some ⟨bL,0,none⟩) n n,.slice none 0 0,.slice (some ⟨bG,0,none⟩) n n,.int .i64 b])∧Hid (wx.ownsRow V1.heap.size 3 1 (.slice (some ⟨bF,0,none⟩) n cF) n (intsZ (Kl s n)))∧Hid (wx.ownsRow wr.heap.size 3 1 (.slice (some ⟨bC,0,none⟩) n cC) n (intsZ (Kl s n)))∧bF<bC∧p<bC)
    case first =>
     go_region_law (refine step_append_grows rfl (.tmp 54) (.tmp 58) 22 rfl 3 i3 _ 1 8 Tryz.underlying22 hi3 hz30 hz31 hz32 rfl (by decide) none 0 0 [] ?q1 (fun _=>⟨rfl,rfl⟩) rfl ?q2 ⟨bF,0,none⟩ n cF (intsZ (Kl s n)) ?q3 HKN.out ?q4 (intsZ_one _) (by omega) (by unfold maxLen;omega) (by omega) ?_;(case q1=>simp[Act.eval,Act.put]);(case q2=>intro b h;cases h);(case q3=>simp[Act.eval,Act.put]);(case q4=>exact HOF.out.cells rfl);intro v' w' hown hgrow;obtain⟨g',c',hv'⟩:=owns_shape (by omega) hown;subst hv';have HX1:=hid hown;have HX2:=hid hgrow;have HX3:=hid (pobj.grown (w:=wr.drew) (show pobj wr.drew p _ from HP.out) hgrow (fun e=>by cases e));have g1:=HX3.out.cell (i:=2) rfl;have g2:=HX3.out.froz 2;clear hown hgrow)
     all_goals (
      go_wp2
      go_meet
      case rel =>
       have hg':=owns_at HX1.out
       have hfl:=(owns_at HOF.out).2
       have hgw:wr.heap.size≤g':=hg'.1
       refine⟨g',c',hid ((Fr.grown (HF.out.drew) HX2.out (fun k h=>by cases h)).set (List.mem_singleton.2 rfl) _),hid (HX3.out.set 2 _),hid ?_,hid ?_,by omega,by omega⟩
       ·exact owns_fr (owns_grown (w:=wr.drew) HOF.out HX2.out (fun g hg e=>by cases e)) (fr_set1 _ p 2 _) (fun g hg hm=>by cases hg;have:=(owns_at HOF.out).1;have h5:bF=p:=List.mem_singleton.1 hm;omega)
       ·have h:=HX1.out
        rw[Nat.zero_add,List.nil_append]at h
        exact owns_fr h (fr_set1 _ p 2 _) (fun g hg hm=>by cases hg;have h5:g'=p:=List.mem_singleton.1 hm;omega))
    case rest =>
     obtain⟨bC,cC,HF1,HP1,HO1,HC1,hFC,hpC⟩:=hcut;obtain⟨V,hV⟩:∃V,V=wc:=⟨_,rfl⟩;subst hV;have hbF:=owns_at HO1.out;have hbC:=owns_at HC1.out;have hpV1:=hpL;have HRF:=hid (fun(X:World) (hf:Fr [p] V X)=>(show rowAt X bF n (Kl s n)from(owns_rowAt HO1.out (Kl_len s n)).fr hf (fun h=>by have:=List.mem_singleton.1 h;omega)));clear d1 d2 f2 hpw;go_wp2;go_loopw [10] (fun ii wr=>∃(i:Nat) (vM:Value),ii=.int .i64 i∧i≤n∧Hid (Fr [p] V wr)∧Hid (pobj wr p #[.slice (some ⟨bR,0,none⟩) n cR,.slice (some ⟨bF,0,none⟩) n cF,.slice (some ⟨bC,0,none⟩) n cC,.slice (some ⟨bL,0,none⟩) n n,vM,.slice (some ⟨bG,0,none⟩) n n,.int .i64 b])∧Hid (wr.ownsRow V.heap.size 3 1 vM i (intsZ (Ml (Kl s n) i)))) (fun ii _=>n - (intOf ii).toNat)
     case atStart=>exact⟨0,_,rfl,Nat.zero_le _,hid (Fr.refl _ _),HP1,hid (World.ownsRow_nil _ _ _ _)⟩
     case round =>
      obtain⟨i,vM,rfl,hin,HFR,HPR,HOM⟩:=hrel;by_cases hlt:i<n
      ·have hiI2:(i:Int)<(n:Int):=by omega
       have e1:=HRF.out wr HFR.out i hlt;have d1:=HPR.out.cell (i:=1) rfl;have d4:=HPR.out.cell (i:=4) rfl;have f4:=HPR.out.froz 4;have hpw:=HPR.out.lt;have hszr:=HFR.out.size;obtain⟨a1,c1,hv1⟩:=owns_slice HOM.out;subst hv1;have HMS:=hid (Ml_succ (Kl s n) i);have HC29:=hid (ref10_any (nth (Kl s n) i));have HC30:=hid (ref11_any bF n cF (Kl s n) i wr (Kl_len s n) hns (by omega) (HRF.out wr HFR.out));have HMT:=hid (show mtOf (Kl s n) i=if ini (nth (Kl s n) i)then mateI (mate (Kl s n) i)else -1 from rfl);generalize nth (Kl s n) i=c at *;generalize mateI (mate (Kl s n) i)=mt at *;generalize hmv:mtOf (Kl s n) i=mv at *;clear hmv;cases hc:ini c
       case' false =>
        rw[hc]at HMT HC29;have HMV:=hid (show mv=-1 from HMT.out);have hmv:=HMV.out
       case' true =>
        rw[hc]at HMT HC29;have HMV:=hid (show mv=mt from HMT.out);have hmv:=HMV.out
       all_goals (
        subst hmv
        clear hc HMT HMV
        go_wp2_with (first | (go_at_call 41;refine(HC29.out _).mono ?_;rintro e' w' ⟨rfl,rfl⟩) | (go_at_call 42;refine HC30.out.mono ?_;rintro e' w' ⟨rfl,rfl⟩) | (at_builtin;refine wpList_append_own _ rfl _ _ 22 rfl V.heap.size 3 i3 _ 1 8 Tryz.underlying22 hi3 hz30 hz31 hz32 rfl (by decide) _ i (intsZ (Ml (Kl s n) i)) rfl ?own _ 1 1 [.int .i64 _] rfl rfl (news_at _ _ _ _ (by simp)) (one_cell _) (by unfold maxLen;omega) (by omega) ?szz ?_))
        case own=>exact owns_fr0 HOM.out ((Fr.refl [] _).alloc _)
        case szz=>simp;omega
        intro v' w3 own3 hgrow hnil
        obtain⟨g',c',hv'⟩:=owns_shape (by omega) own3
        subst hv'
        have hne:∀k,some k=(Value.slice a1 i c1).ownBlock→V.heap.size≤k:=fun k hk=>(HOM.out.lt k hk.symm).1
        have HP3:=hid ((HPR.out.fr ((Fr.refl [] _).alloc _) List.not_mem_nil).grown hgrow (fun e=>by have:=hne p e;omega))
        have HF3:=hid (Fr.grown (HFR.out.alloc _) hgrow (fun k hk=>hne k hk.symm))
        have f1:=HP3.out.cell (i:=4) rfl
        have f2:=HP3.out.froz 4
        have HO3:=hid own3
        have hgp:p≠g':=by have:=(owns_at own3).1;omega
        clear own3 hgrow hnil hne d1 d4 f4
        go_wp2
        go_roundw
        case rel=>exact⟨i+1,_,by go_num,by omega,hid (HF3.out.set (List.mem_singleton.2 rfl) _),hid (HP3.out.set 4 _),hid (by rw[HMS.out,←intsZ_snoc];exact owns_fr HO3.out (fr_set1 _ p 4 _) (fun g hg hm=>by cases hg;exact hgp (List.mem_singleton.1 hm).symm))⟩
        case measure=>simp[intOf];omega
       )
      ·have hie:n=i:=by omega
       subst hie;obtain⟨bM,cM,hvM⟩:=owns_shape h0 HOM.out;subst hvM;have d1:=HPR.out.cell (i:=1) rfl;have d6:=HPR.out.cell (i:=6) rfl;have f6:=HPR.out.froz 6;have hpw:=HPR.out.lt;have HC31:=hid (fun(X:World) (hf:Fr [p] V X)=>ref12_any bF n cF (Kl s n) 0 n X (Kl_len s n) hns (Nat.le_refl _) (Nat.zero_le _) (HRF.out X hf));clear hin;go_upto_if 93 with fail
       go_cut []from 92 to 106 (fun wx=>Hid (Fr [p] wr wx)∧Hid (pobj wx p #[.slice (some ⟨bR,0,none⟩) n cR,.slice (some ⟨bF,0,none⟩) n cF,.slice (some ⟨bC,0,none⟩) n cC,.slice (some ⟨bL,0,none⟩) n n,.slice (some ⟨bM,0,none⟩) n cM,.slice (some ⟨bG,0,none⟩) n n,.int .i64 bs]))
       case first =>
        by_cases hb2:b=2
        ·subst hb2
         have HBT:=hid (show bs=if strong (Kl s n) 0 n then 1 else 0 by rw[HBS.out,baseOf,if_pos rfl,Kl_len]);have HP6:=hid (HPR.out.set 6 (.int .i64 0));have k6:=HP6.out.cell (i:=6) rfl;have k1:=HP6.out.cell (i:=1) rfl;have l6:=HP6.out.froz 6;cases hst:strong (Kl s n) 0 n
         all_goals (
          rw[hst]at HC31 HBT
          have HBU:=hid HBT.out
          clear hst
          go_wp2_with (first | (go_at_call 43;refine(HC31.out _ ?_).mono ?_;exact HFR.out.set (List.mem_singleton.2 rfl) _;rintro e' w' ⟨rfl,rfl⟩))
          go_meet)
         ·exact⟨hid ((Fr.refl _ _).set (List.mem_singleton.2 rfl) _),hid (by rw[HBU.out];exact HP6.out)⟩
         ·exact⟨hid (((Fr.refl _ _).set (List.mem_singleton.2 rfl) _).set (List.mem_singleton.2 rfl) _),hid (by rw[HBU.out];exact HP6.out.set 6 _)⟩
        ·have hbb:(b == 2)=false:=by simp[hb2]
         have HBT:=hid (show bs=b by rw[HBS.out,baseOf,if_neg hb2]);go_wp2;go_meet;exact⟨hid (Fr.refl _ _),hid (by rw[HBT.out];exact HPR.out)⟩
       case rest =>
        obtain⟨HF5,HP5⟩:=hcut;have hbM:=owns_at HOM.out;have hbR:=(owns_at HO.out).2;have hRp:bR<W.heap.size:=hbR;have hVr:=HFR.out.size;have hV1V:=HF1.out.size;have hWV1:=HV.out.1.size;have hLl:bL<V1.heap.size:=(Array.getElem?_eq_some_iff.1 HV.out.2.2.1).1;have hGl:bG<V1.heap.size:=(Array.getElem?_eq_some_iff.1 HV.out.2.2.2.1).1;have hLp:bL≠p:=fun h=>by have h1:=HV.out.2.1;have h2:=HV.out.2.2.1;rw[h]at h2;unfold pobj at h1;rw[h1]at h2;cases h2
        have hGp:bG≠p:=fun h=>by have h1:=HV.out.2.1;have h2:=HV.out.2.2.2.1;rw[h]at h2;unfold pobj at h1;rw[h1]at h2;cases h2
        have hLG:bL≠bG:=fun h=>by have h1:=HV.out.2.2.1;have h2:=HV.out.2.2.2.1;rw[h,h2]at h1;cases h1
        have hord:=HV.out.2.2.2.2;obtain⟨hWp,hWL,hWG⟩:=hord;have hfr:Fr [p] V wc:=HFR.out.trans HF5.out;have hfr1:Fr [p] V1 wc:=HF1.out.trans hfr;have hqex:∃q:PH,q.p=p∧q.n=n∧q.K=Kl s n∧q.R=Rl s n∧q.M=Ml (Kl s n) n∧q.base=bs∧q.bC=bC∧q.bL=bL∧q.bG=bG∧q.bR=bR∧PS wc q q.K (List.replicate q.K.length 0) (gAt q.K 0):=by
         refine⟨⟨p,bR,bF,bC,bL,bM,bG,cR,cF,cC,n,cM,n,n,Rl s n,Kl s n,Ml (Kl s n) n,bs⟩,rfl,rfl,rfl,rfl,rfl,rfl,rfl,rfl,rfl,rfl,?_⟩;refine PS.make HP5.out (fun i hi=>?_) (HRF.out wc hfr) (owns_fr HC1.out hfr (fun g hg hm=>by cases hg;have h5:bC=p:=List.mem_singleton.1 hm;omega)) (owns_rowAt (owns_fr HOM.out HF5.out (fun g hg hm=>by cases hg;have h5:bM=p:=List.mem_singleton.1 hm;omega)) (Ml_len _ _)) ?_ ?_ (Kl_len s n) ⟨by omega,by omega,by omega,by omega⟩ ⟨hLp,by omega,by omega,by omega⟩ ⟨hGp,by omega,by omega,by omega⟩ ⟨by omega,by omega,hLG⟩
         ·rw[Rl_at s hi];exact HRR.out wc hfr1 i hi
         ·rw[←HZL.out];exact(hfr1.block bL hLl (fun h=>hLp (List.mem_singleton.1 h))).trans HV.out.2.2.1
         ·rw[←HZG.out];exact(hfr1.block bG hGl (fun h=>hGp (List.mem_singleton.1 h))).trans HV.out.2.2.2.1
        obtain⟨q,hqp,hqn,hqK,hqR,hqM,hqb,hqC,hqL,hqG,hqc,hPS⟩:=hqex;have HPW:=hid (show rowP wc q.bR n (Dec.pos s) by rw[hqc];exact HRP.out wc hfr1);have HNE:=hid (show q.bR ∉ [q.bC,q.bL,q.bG]from fun h=>by have h1:=hPS.neC.2.1;have h2:=hPS.neL.2.1;have h3:=hPS.neG.2.1;simp only[List.mem_cons,List.not_mem_nil,or_false]at h;omega);have HQKK:=hid hqK;have HQ:=hid hPS;have HFW:=hid (show Fr [] w wc from HW.out.trans ((((HV.out.1.mono (fun _ h _=>absurd h List.not_mem_nil)):Fr [p] W V1).trans hfr1).mono (fun k hk hlt=>by have h5:k=p:=List.mem_singleton.1 hk;omega)));have HQW:=hid (show w.heap.size≤q.bC∧w.heap.size≤q.bL∧w.heap.size≤q.bG∧w.heap.size≤q.p by have:=HW.out.size;rw[hqC,hqL,hqG,hqp];omega);have HQK:=hid (show q.K.length=q.n by rw[hqK,hqn,Kl_len]);have HMT:=hid (show ∀i,i<q.n→nth q.M i=if ini (nth q.K i)then mateI (mate q.K i)else -1 from fun i hi=>by rw[hqM,hqK];rw[hqn]at hi;exact Ml_at _ hi);have HC32:=hid (ref13_any q wc HQK.out (by rw[hqn];exact hns) (by rw[hqn];exact h0) (by rw[hqb];exact hbs01) HMT.out hPS);have HLL2:=hid (show LL=levels q.R q.K q.base by rw[HLL.out,hqR,hqK,hqb]);rw[hqp]at HC32;have HQP:=hid hqp;have HQN:=hid hqn;have HQB:=hid hqb;have hb01:q.base=0∨q.base=1:=by rw[hqb];exact hbs01
        have HB01:=hid hb01;have hq0:0<q.n:=by rw[hqn];exact h0
        have hq1:q.n≤1000000:=by rw[hqn];exact hns
        clear hqp hqn hqK hqR hqM hqb hqC hqL hqG hqc hPS hfr hfr1 HF5 HP5 HRF HRR HRP HFR HPR HOM HV HPO HO HC31 HF1 HP1 HO1 HC1 d1 d6 f6;go_wp2_with fail;refine HC32.out.mono ?_;rintro e w2 ⟨rfl,hp2,hf2⟩;have HP2:=hid hp2;have HPW2:=hid (HPW.out.fr hf2 HNE.out);have HF2:=hid (show Fr [] w w2 from(((HFW.out.mono (fun _ h _=>absurd h List.not_mem_nil)):Fr [q.bC,q.bL,q.bG] w wc).trans hf2).mono (fun k hk hlt=>by simp at hk;have:=HQW.out;omega));obtain⟨E,hE⟩:∃E,E=embTo q.K q.base q.K.length:=⟨_,rfl⟩;rw[←hE]at HP2;have HINV:=hid (show EmbInv q.K q.base q.K.length E by rw[hE];exact emb_inv q.K q.base HB01.out _ (Nat.le_refl _));obtain⟨SS,hSS⟩:∃SS,SS=seqs q.K (runsTo q.K E.L q.K.length):=⟨_,rfl⟩;have HSO:=hid (show SsOk q.K E.L SS by rw[hSS,hE];exact(ss_ok q.K q.base HB01.out).1)
        have HSN:=hid (show ∀i,i<SS.length→0<(run SS i).length from fun i hi=>by
         have hm:=run_mem hi
         rw[hSS]at hm
         obtain⟨j,hj,e⟩:=seqs_chain _ (Nat.le_refl _) _ hm
         rw[hSS,e,ch_eq (runs_ok q.K E.L) hj,List.length_append]
         have:=List.length_pos_iff.2 ((runs_ok q.K E.L).ne j hj)
         omega)
        have HLL3:=hid (show LL=(raiseTo q.K (rulesTo q.R q.K E.L q.base SS SS.length E.C) q.base q.K.length E.L).2 by rw[HLL2.out,hSS,hE];rfl);have HGG:=hid (show ∀i,i<q.n→((gAt q.K q.K.length)[i]?).getD false=gone (nth q.K i)from fun i hi=>gAt_all q.K i (by rw[HQK.out];exact hi));have HC33:=hid (ref14_any q E.C E.L w2 HQK.out hq1 (gAt q.K q.K.length) HGG.out (fun i hi hini=>by rw[HMT.out i hi,if_pos hini]) HP2.out);rw[HQP.out,←hSS]at HC33;generalize gAt q.K q.K.length=G at *;have hSSl:SS.length≤1000000:=by
         have h1:=seqs_short (runs_short q.K E.L q.K.length).1 (K:=q.K);rw[←hSS,HQK.out]at h1;omega
        clear hp2 hf2 hE hSS HC32 HLL2 HLL;go_wp2_with fail;refine HC33.out.mono ?_;rintro e w3 ⟨v,rfl,hv,hf3⟩;have HP3:=hid (HP2.out.fr0 hf3);have HPW3:=hid (HPW2.out.fr hf3 List.not_mem_nil);have HF3:=hid (HF2.out.trans hf3);have HV:=hid hv;have hCl:=HP2.out.ltC hq0;have hLl2:=HP2.out.ltL hq0;have hGl2:=HP2.out.ltG hq0;have hvs:∃a c,v=.slice a SS.length c:=by
         rcases Nat.eq_zero_or_pos SS.length with h | h
         ·exact⟨none,0,by rw[h];exact hv.1 h⟩
         ·obtain⟨o,cap,h1,_⟩:=hv.2.1 h
          exact⟨_,cap,h1⟩
        obtain⟨va,vc,hvv⟩:=hvs;subst hvv;obtain⟨NS,hNS⟩:∃NS,NS=SS.length:=⟨_,rfl⟩;rw[←hNS]at hSSl ⊢;have HNS:=hid hNS;clear hf3 HC33 hv hNS;go_wp2;go_loopw [15] (fun ii wr=>∃(i:Nat),ii=.int .i64 i∧i≤NS∧Hid (PS wr q (rulesTo q.R q.K E.L q.base SS i E.C) E.L G)∧Hid (Fr [q.bC] w3 wr)) (fun ii _=>NS - (intOf ii).toNat)
        case atStart=>exact⟨0,rfl,Nat.zero_le _,HP3,hid (Fr.refl _ _)⟩
        case round =>
         obtain⟨i,rfl,hin2,HPR,HFR⟩:=hrel;by_cases hlt2:i<NS
         ·skip
          obtain⟨o,cap,hvv,hoB⟩:=HV.out.2.1 (by rw[←HNS.out];omega);rw[←HNS.out]at hvv;cases hvv;obtain⟨g,c,a1,a2,a3⟩:=HV.out.2.2 o vc (by rw[←HNS.out]) i (by rw[←HNS.out];exact hlt2);have hoC:o ∉ [q.bC]:=fun h=>by have:=List.mem_singleton.1 h;omega
          have hgC:g ∉ [q.bC]:=fun h=>by have:=List.mem_singleton.1 h;omega
          have hiS:i<SS.length:=by rw[←HNS.out];exact hlt2
          have HIS:=hid (show IS wr q g (run SS i)from⟨(owns_rowN a3 rfl).fr HFR.out hgC,fun k hk=>by
           have h:=HSO.out.lt i (nix (run SS i) k) hiS (by rw[nix_of_get hk];exact List.getElem_mem hk)
           rw[HQK.out]at h;exact h,⟨by omega,by omega,by omega⟩,by
           have h:=sorted_len q.K.length (run SS i) 0 (HSO.out.so i hiS) (fun x hx=>⟨Nat.zero_le _,HSO.out.lt i x hiS hx⟩)
           rw[HQK.out]at h;omega⟩)
          have e1:=HFR.out.cell a1 hoC;have hI0:=HSN.out i hiS;have HINJ:=hid (sorted_inj (HSO.out.so i hiS));have HRN:=hid (show rulesTo q.R q.K E.L q.base SS (i+1) E.C=rules q.R q.K (seqOf q.K E.L q.base (run SS i)) (rulesTo q.R q.K E.L q.base SS i E.C)from rfl);have HC34:=hid (ref15_any q _ E.L G g c (run SS i) wr HPR.out HIS.out hI0 hq1 HQK.out HGG.out (fun j=>(HINV.out.small j).1) (by have:=HB01.out;omega));rw[HQP.out]at HC34;obtain⟨sq,hsq⟩:∃sq,sq=seqOf q.K E.L q.base (run SS i):=⟨_,rfl⟩;rw[←hsq]at HRN HC34;have hsI:sq.I=run SS i:=by rw[hsq];rfl
          have hbef:sq.bef=0∨sq.bef=1:=by rw[hsq];exact way_01 _
          have haft:sq.aft=0∨sq.aft=1:=by rw[hsq];exact way_01 _
          rw[←hsI]at HIS hI0 HINJ e1 HC34;generalize hC1:rulesTo q.R q.K E.L q.base SS i E.C=C1 at *;obtain⟨m,hm⟩:∃m,m=sq.I.length:=⟨_,rfl⟩;have HVV:=hid (show sqV g c sq=.agg #[.slice (some ⟨g,0,none⟩) m c,.int .i64 sq.own,.int .i64 sq.bef,.int .i64 sq.aft] by rw[hm]);have HC35:=hid (fun(X:World) (hp:PS X q C1 E.L G) (hi:IS X q g sq.I)=>ref16_any q C1 E.L G g c sq X hp hi hI0 hbef haft (fun C w hp hi=>ref38_any q C E.L G g c sq w hp hi hI0 hbef haft HINJ.out));have HC36:=hid (fun(X:World) (hp:PS X q (weak q.K sq C1) E.L G) (hi:IS X q g sq.I)=>ref17_any q (weak q.K sq C1) E.L G g c sq X hp hi hI0 _ rfl (pairs_ok q.R sq.I _) (by have h1:=(prs_inv q.R sq.I (weak q.K sq C1) sq.I.length).len;have h2:=hi.sm;omega) (fun w hp hi=>ref39_any q _ E.L G g c sq w hp hi hI0));have HC37:=hid (fun(X:World) (hp:PS X q (brackets q.R q.K sq (weak q.K sq C1)) E.L G) (hi:IS X q g sq.I)=>ref18_any q _ E.L G g c sq X hp hi hI0 HINJ.out);rw[HVV.out,HQP.out]at HC35 HC36 HC37;rw[HVV.out]at HC34;rw[←hm]at e1 HC34;have hiI3:(i:Int)<(NS:Int):=by omega
          clear hbef haft hsI hsq hC1 hm a1 a2 a3;go_wp2_with fail;refine HC34.out.mono ?_;rintro e w4 ⟨rfl,hf4⟩;have HPX:=hid ((HPR.out.fr0 hf4).alloc (.cells #[.slice (some ⟨g,0,none⟩) m c,.int .i64 sq.own,.int .i64 sq.bef,.int .i64 sq.aft] 101));have HISX:=hid ((HIS.out.fr hf4 List.not_mem_nil).fr (S:=[]) ((Fr.refl [] w4).alloc (.cells #[.slice (some ⟨g,0,none⟩) m c,.int .i64 sq.own,.int .i64 sq.bef,.int .i64 sq.aft] 101)) List.not_mem_nil);have HBX:=hid (show boxAt (w4.alloc (.cells #[.slice (some ⟨g,0,none⟩) m c,.int .i64 sq.own,.int .i64 sq.bef,.int .i64 sq.aft] 101)) w4.heap.size g m c sq.own sq.bef sq.aft from fun j v hv=>by rw[World.cell?_alloc_at _ _ _ _ rfl];exact hv);have HFX:=hid ((HFR.out.trans (hf4.mono (fun _ h _=>absurd h List.not_mem_nil))).alloc (.cells #[.slice (some ⟨g,0,none⟩) m c,.int .i64 sq.own,.int .i64 sq.bef,.int .i64 sq.aft] 101));have hnb:w4.heap.size ∉ [q.bC]:=fun h=>by have h1:=List.mem_singleton.1 h;have h2:=hf4.size;have h3:=HPR.out.ltC hq0;omega
          have HNB:=hid hnb;have HGC:=hid hgC;clear hf4 hnb HC34 e1 hgC
          go_wp2_with (first
           | (go_at_call 47;refine(HC35.out _ ?_ ?_).mono ?_;exact HPX.out;exact HISX.out;rintro e' w5 ⟨rfl,hp5,hf5⟩;have HP5:=hid hp5;have HB5:=hid (HBX.out.fr hf5 HNB.out);have HI5:=hid (HISX.out.fr hf5 HGC.out);have HF5:=hid (HFX.out.trans hf5);have u0:=HB5.out 0 _ rfl;have u1:=HB5.out 1 _ rfl;have u2:=HB5.out 2 _ rfl;have u3:=HB5.out 3 _ rfl;clear hp5 hf5)
           | (go_at_call 48;refine(HC36.out _ ?_ ?_).mono ?_;exact HP5.out;exact HI5.out;rintro e' w6 ⟨rfl,hp6,hf6⟩;have HP6:=hid hp6;have HB6:=hid (HB5.out.fr hf6 HNB.out);have HI6:=hid (HI5.out.fr hf6 HGC.out);have HF6:=hid (HF5.out.trans hf6);clear u0 u1 u2 u3;have u0:=HB6.out 0 _ rfl;have u1:=HB6.out 1 _ rfl;have u2:=HB6.out 2 _ rfl;have u3:=HB6.out 3 _ rfl;clear hp6 hf6)
           | (go_at_call 49;refine(HC37.out _ ?_ ?_).mono ?_;exact HP6.out;exact HI6.out;rintro e' w7 ⟨rfl,hp7,hf7⟩;have HP7:=hid hp7;have HF7:=hid (HF6.out.trans hf7);clear hp7 hf7))
          go_roundw
          case rel=>exact⟨i+1,by go_num,by omega,hid (by rw[HRN.out];exact HP7.out),HF7⟩
          case measure=>simp[intOf];omega
         ·have hie2:i=NS:=by omega
          have HPF:=hid (show PS wr q (rulesTo q.R q.K E.L q.base SS SS.length E.C) E.L G by rw[←HNS.out,←hie2];exact HPR.out);have hiI3:¬(i:Int)<(NS:Int):=by omega
          have HC38:=hid (ref19_any q _ E.L G wr HPF.out hq1 HGG.out (fun j=>⟨(HINV.out.small j).1,by have:=(HINV.out.small j).2;omega⟩));rw[HQP.out]at HC38;clear hie2;go_wp2_with (first | (go_at_call 50;refine HC38.out.mono ?_;rintro e' w6 ⟨rfl,hp6,hf6⟩));go_ret;have hX:=HNE.out;simp only[List.mem_cons,List.not_mem_nil,or_false,not_or]at hX;have h6:=hp6;rw[←HQK.out,←HLL3.out]at h6;refine⟨q,_,G,by rw[HQP.out];rfl,h6,HQN.out,HQKK.out,HQB.out,fun i hi=>by rw[←HQKK.out];exact HGG.out i (by rw[HQN.out];exact hi),(HPW3.out.fr HFR.out (fun h=>hX.1 (List.mem_singleton.1 h))).fr hf6 (fun h=>hX.2.1 (List.mem_singleton.1 h)),?_⟩
          ·have h1:Fr [q.bC,q.bL] w w6:=((HF3.out.mono (fun _ h _=>absurd h List.not_mem_nil)).trans (HFR.out.mono (fun k hk _=>by simp at hk ⊢;exact .inl hk))).trans (hf6.mono (fun k hk _=>by simp at hk ⊢;exact .inr hk))
           exact h1.mono (fun k hk hlt=>by simp at hk;have:=HQW.out;omega)
end Go.Proofs.YtnakejhohdbfdaaGreatDoor

import Derived.Test.YtnakejhohdbfdaaGreatDoorXPvB
import Derived.Test.YtnakejhohdbfdaaGreatDoorXRefBnd
import Derived.Test.YtnakejhohdbfdaaGreatDoorXLdB
import Derived.Test.YtnakejhohdbfdaaGreatDoorXMa
import Derived.Test.YtnakejhohdbfdaaGreatDoorXMc
import Derived.WalkLawsBesides
namespace Go.Proofs.YtnakejhohdbfdaaGreatDoor
open Go.RowKit Lev Lay Bnd
def slAt (w:World)(v:Value)(l:List Int):Prop:=∃a c,v=.slice a l.length c∧(l.length=0∨∃g o,a=some ⟨g,o,none⟩∧rowO w g o l.length l)
theorem slAt.fr {w w':World}{v:Value}{l:List Int}(h:slAt w v l)(hf:Fr [] w w'):slAt w' v l:=by
 obtain⟨a,c,h1,h2⟩:=h;refine⟨a,c,h1,h2.imp id ?_⟩;rintro ⟨g,o,h3,h4⟩;exact⟨g,o,h3,h4.fr hf List.not_mem_nil⟩
def clsOf (s:ByteArray)(n:Nat):List Int:=(List.range n).map (fun i=>Tabs.look Tabs.classTab (Dec.rune s i))
theorem clsOf_at (s:ByteArray){n i:Nat}(h:i<n):nth (clsOf s n) i=Tabs.look Tabs.classTab (Dec.rune s i):=by simp[nth,clsOf,h]
set_option maxRecDepth 10000 in
set_option maxHeartbeats 2000000 in
theorem ck_long (s:ByteArray)(b:Int)(vW vB:Value)(w:World)(hs:400<s.size) :
 Calls Tryz.prog 53 #[.agg #[.string s,.int .i64 b,vW,vB]] w fun e w'=>e=.returned (.int .i64 1)∧Fr [] w w':=by
 have h1:(400:Int)<(s.size:Int):=by omega
 go_enter Tryz.func53,Tryz.ntmps53;go_wp2;go_ret;exact⟨rfl,(Fr.refl [] w).alloc _⟩
set_option maxRecDepth 10000 in
set_option maxHeartbeats 2000000 in
theorem ck_base (s:ByteArray)(b:Int)(vW vB:Value)(w:World)(hs:s.size≤400)(hb:b<0∨2<b) :
 Calls Tryz.prog 53 #[.agg #[.string s,.int .i64 b,vW,vB]] w fun e w'=>e=.returned (.int .i64 2)∧Fr [] w w':=by
 have h1:¬(400:Int)<(s.size:Int):=by omega
 by_cases h2:b<0
 ·go_enter Tryz.func53,Tryz.ntmps53
  go_wp2;go_ret;exact⟨rfl,(Fr.refl [] w).alloc _⟩
 ·have h3:2<b:=by omega
  have h2':decide (b<0)=false:=decide_eq_false h2;go_enter Tryz.func53,Tryz.ntmps53;go_wp2;go_ret;exact⟨rfl,(Fr.refl [] w).alloc _⟩
set_option maxRecDepth 10000 in
set_option maxHeartbeats 4000000 in
theorem ck_rest (s:ByteArray)(b:Int)(vW vB:Value)(W Br:List Int)(n:Nat)(w:World)(hs:s.size≤400)(hb:0≤b∧b≤2)(hT:Lib.Utf8Tabs 1 2 w)(hend:Dec.Ends s n)(hW:slAt w vW W)(hWl:W.length≤5000)(hB:slAt w vB Br)(hBl:Br.length≤5000) :
 Calls Tryz.prog 53 #[.agg #[.string s,.int .i64 b,vW,vB]] w fun e w'=>e=.returned (.int .i64 (chk s n (clsOf s n) b W Br))∧Fr [] w w':=by
 obtain⟨R,hR⟩:∃R,R=chk s n (clsOf s n) b W Br:=⟨_,rfl⟩;rw[←hR]
 have HR:=hid (show R=if W.length≠n∨Lay.wOk W n=false then 3 else if Lay.brTo (bnd s n) s.size Br Br.length=false then 4 else if Lay.early (clsOf s n) (Dec.pos s) (nth (bnd s n) ((bnd s n).length - 2)) n=true then 5 else 0 by
  rw[hR,chk,if_neg (by omega),if_neg (by omega)])
 have hn4:n≤400:=by have:=Dec.le_pos s n;have:=hend.1;omega
 obtain⟨aW,cW,rfl,hW2⟩:=hW;obtain⟨aB,cB,rfl,hB2⟩:=hB;have HW:=hid hW2;have HB:=hid hB2;obtain⟨wb,hwb⟩:∃wb,wb=w.alloc (.cells #[.string s,.int .i64 b,.slice aW W.length cW,.slice aB Br.length cB] 35):=⟨_,rfl⟩;have HFb:=hid (show Fr [] w wb by rw[hwb];exact(Fr.refl [] w).alloc _);have hob:wb.heap[w.heap.size]?=some (.cells #[.string s,.int .i64 b,.slice aW W.length cW,.slice aB Br.length cB] 35 (0,0)):=by rw[hwb];exact obj_new w _
 have HOB:=hid hob;have HE:=hid hend;have HT:=hid hT;have HC:=hid (Cls.ref7_any s wb (by omega) (Cls.tabs_below hT (HFb.out.below (Nat.le_refl _) (fun _ h=>absurd h List.not_mem_nil))));obtain⟨hb0,hb2⟩:=hb;have h1:¬(400:Int)<(s.size:Int):=by omega
 have h2:¬b<0:=by omega
 have h2':decide (b<0)=false:=decide_eq_false h2;have h3:¬ 2<b:=by omega
 have h3':decide (2<b)=false:=decide_eq_false h3;obtain⟨nW,hnW⟩:∃nW,nW=W.length:=⟨_,rfl⟩;obtain⟨nB,hnB⟩:∃nB,nB=Br.length:=⟨_,rfl⟩;rw[←hnW]at HOB hwb hWl HW HR ⊢;rw[←hnB]at HOB hwb hBl HB HR ⊢;have HNW:=hid hnW;have HNB:=hid hnB;clear hR hend hT hW2 hB2 hob hnW hnB;go_enter Tryz.func53,Tryz.ntmps53;go_wp2_with fail;rw[←hwb];clear hwb;refine HC.out.mono ?_;rintro e w1 ⟨n',v,hn',rfl,own,hbel,hnil⟩;obtain rfl:=Dec.ends_unique HE.out hn';have HF1:=hid (Fr.of_below (S:=[]) hbel);have HO:=hid own;obtain⟨aR,cR,hv⟩:=owns_slice own;subst hv;have HOB1:=hid (obj_fr HOB.out HF1.out List.not_mem_nil);have k0:=obj_cell HOB1.out (i:=0) rfl;have k2:=obj_cell HOB1.out (i:=2) rfl;have k3:=obj_cell HOB1.out (i:=3) rfl;clear own hbel hnil hn' HC;by_cases hWn:nW=n
 ·obtain rfl:n=nW:=hWn.symm
  have HRn:=hid (show R=if Lay.wOk W n=false then 3 else if Lay.brTo (bnd s n) s.size Br nB=false then 4 else if Lay.early (clsOf s n) (Dec.pos s) (nth (bnd s n) ((bnd s n).length - 2)) n=true then 5 else 0 by
   rw[HR.out]
   cases h:Lay.wOk W n
   ·rw[if_pos (.inr rfl),if_pos rfl]
   ·rw[if_neg (show ¬(n≠n∨true=false) by simp),if_neg (show ¬(true=false) by simp)])
  have hnn:((n:Int) == (n:Int))=true:=by simp
  clear hWn HR;go_wp2_with fail;go_loop [4] (fun ii=>∃i:Nat,ii=.int .i64 i∧i≤n∧Hid (∀j,j<i→0≤nth W j∧nth W j≤1073741824)) (fun ii=>n - (intOf ii).toNat)
  case atStart=>exact⟨0,rfl,Nat.zero_le _,hid (fun j hj=>absurd hj (Nat.not_lt_zero _))⟩
  case round =>
   obtain⟨i,rfl,hin,HM⟩:=hrel;by_cases hil:i<n
   ·have hiI:(i:Int)<(n:Int):=by omega
    obtain⟨g,o,haW,hrow⟩:=HW.out.resolve_left (by omega);have d0:=hrow.fr (HFb.out.trans HF1.out) List.not_mem_nil i hil;subst haW;have HNO:=hid (fun h=>wOk_not (W:=W) hil h);by_cases hw0:nth W i<0
    ·have HRv:=hid (show R=3 by rw[HRn.out,if_pos (HNO.out (by omega))])
     generalize nth W i=y at *;go_wp2;go_ret;exact⟨retI HRv.out.symm,HFb.out.trans HF1.out⟩
    ·have hw0':decide (nth W i<0)=false:=decide_eq_false hw0
     by_cases hw1:1073741824<nth W i
     ·have HRv:=hid (show R=3 by rw[HRn.out,if_pos (HNO.out (by omega))])
      generalize nth W i=y at *;go_wp2;go_ret;exact⟨retI HRv.out.symm,HFb.out.trans HF1.out⟩
     ·have hw1':decide (1073741824<nth W i)=false:=decide_eq_false hw1
      have HM2:=hid (show ∀j,j<i+1→0≤nth W j∧nth W j≤1073741824 from fun j hj=>by
       rcases Nat.lt_or_eq_of_le (Nat.le_of_lt_succ hj)with h | h
       ·exact HM.out j h
       ·rw[h];omega)
      generalize nth W i=y at *;go_wp2;go_round
      case rel=>exact⟨i+1,by go_num,by omega,HM2⟩
      case measure=>simp[intOf];omega
   ·obtain rfl:i=n:=by omega
    have HR2:=hid (show R=if Lay.brTo (bnd s i) s.size Br nB=false then 4 else if Lay.early (clsOf s i) (Dec.pos s) (nth (bnd s i) ((bnd s i).length - 2)) i=true then 5 else 0 by
     rw[HRn.out,if_neg (by rw[wOk_all HM.out];simp)])
    have HC5:=hid (Cls.ref15_any s w1 (by omega) (Cls.tabs_below HT.out ((HFb.out.trans HF1.out).below (Nat.le_refl _) (fun _ h=>absurd h List.not_mem_nil))) i HE.out);clear HRn HM;go_wp2_with fail;refine HC5.out.mono ?_;rintro e w2 ⟨v5,rfl,own5,hb5⟩;have HF2:=hid (HF1.out.trans (Fr.of_below (S:=[]) hb5));have HOB2:=hid (obj_fr HOB.out HF2.out List.not_mem_nil);have HO2:=hid (owns_fr0 HO.out (Fr.of_below (S:=[]) hb5));obtain⟨B,hB⟩:∃B,B=bnd s i:=⟨_,rfl⟩;have hBl1:1≤B.length:=by rw[hB];exact(bnd_len s i).1
    have hBl2:B.length≤i+2:=by rw[hB];exact(bnd_len s i).2
    have hBl3:0<i→2≤B.length:=fun h=>by
     rw[hB,bnd_bix HE.out,List.length_map];exact(bix_len s i).2.2 h
    rw[←hB]at own5 HR2;obtain⟨gB,cB5,hv5⟩:=owns_shape (by omega) own5;subst hv5;have HRB:=hid (show rowAt w2 gB B.length B from fun j hj=>by rw[own5.cellAt j (by omega),ints64_at hj]);have HBL:=hid hBl3;obtain⟨nb,hnb⟩:∃nb,nb=B.length:=⟨_,rfl⟩;have HHAS:=hid (fun x (w':World) (hf:Fr [] w2 w')=>has_any B x gB cB5 w' (by omega) (HRB.out.fr hf List.not_mem_nil));rw[←hnb]at HRB hBl1 hBl2 HBL HR2 HHAS ⊢;have m0:=obj_cell HOB2.out (i:=0) rfl;have m3:=obj_cell HOB2.out (i:=3) rfl;have HNBB:=hid hnb;clear own5 hb5 HC5 hB hBl3 hnb k0 k2 k3;go_wp2_with fail;go_loop [6,7] (fun ll ii=>∃k:Nat,ii=.int .i64 k∧k≤nB∧ll=.int .i64 (if k=0 then 0 else nth Br (k - 1))∧Hid (Lay.brTo B s.size Br k=true)) (fun _ ii=>nB - (intOf ii).toNat)
    case atStart=>exact⟨0,rfl,Nat.zero_le _,rfl,rfl⟩
    case round =>
     obtain⟨k,rfl,hkn,rfl,HBT⟩:=hrel;by_cases hkl:k<nB
     ·have hkI:(k:Int)<(nB:Int):=by omega
      obtain⟨g,o,haB,hrow⟩:=HB.out.resolve_left (by omega);have d0:=hrow.fr (HFb.out.trans HF2.out) List.not_mem_nil k hkl;subst haB;have HS:=hid (show Lay.brTo B s.size Br (k+1)=(decide ((if k=0 then 0 else nth Br (k - 1))<nth Br k) && (decide (nth Br k<s.size) && B.contains (nth Br k))) by rw[Lay.brTo,HBT.out,Bool.true_and]);have HM:=hid (fun h=>brTo_mono (B:=B) (z:=s.size) (Br:=Br) (k:=k+1) (j:=nB) (by omega) h);have HNX:=hid (show(if k+1=0 then 0 else nth Br (k+1 - 1))=nth Br k by rw[if_neg (by omega),Nat.add_sub_cancel]);have HH:=hid (HHAS.out (nth Br k) w2 (Fr.refl _ _));generalize hx:nth Br k=x at *;generalize hlast:(if k=0 then 0 else nth Br (k - 1))=last at *;generalize hcon:B.contains x=con at *;clear hx hlast hcon;by_cases c1:x≤last
      ·have HRv:=hid (show R=4 by rw[HR2.out,if_pos (HM.out (by rw[HS.out,decide_eq_false (by omega),Bool.false_and]))])
       go_wp2_with (go_at_call 95;refine HH.out.mono ?_;rintro e w' ⟨rfl,rfl⟩);go_ret;exact⟨retI HRv.out.symm,HFb.out.trans HF2.out⟩
      ·have c1':decide (x≤last)=false:=decide_eq_false c1
       by_cases c2:(s.size:Int)≤x
       ·have HRv:=hid (show R=4 by rw[HR2.out,if_pos (HM.out (by rw[HS.out,decide_eq_false (show ¬x<(s.size:Int) by omega),Bool.false_and,Bool.and_false]))])
        go_wp2_with (go_at_call 95;refine HH.out.mono ?_;rintro e w' ⟨rfl,rfl⟩);go_ret;exact⟨retI HRv.out.symm,HFb.out.trans HF2.out⟩
       ·have c2':decide ((s.size:Int)≤x)=false:=decide_eq_false c2
        cases con
        ·have HRv:=hid (show R=4 by rw[HR2.out,if_pos (HM.out (by rw[HS.out,Bool.and_false,Bool.and_false]))])
         go_wp2_with (go_at_call 95;refine HH.out.mono ?_;rintro e w' ⟨rfl,rfl⟩);go_ret;exact⟨retI HRv.out.symm,HFb.out.trans HF2.out⟩
        ·have HT2:=hid (show Lay.brTo B s.size Br (k+1)=true by rw[HS.out,decide_eq_true (by omega),decide_eq_true (by omega)];rfl)
         go_wp2_with (go_at_call 95;refine HH.out.mono ?_;rintro e w' ⟨rfl,rfl⟩);go_round
         case rel=>exact⟨k+1,by go_num,by omega,by rw[HNX.out],HT2⟩
         case measure=>simp[intOf];omega
     ·obtain rfl:k=nB:=by omega
      have HR3:=hid (show R=if Lay.early (clsOf s i) (Dec.pos s) (nth B (nb - 2)) i=true then 5 else 0 by rw[HR2.out,if_neg (by rw[HBT.out];simp)]);have hkI:¬(k:Int)<(k:Int):=by omega
      generalize (if k=0 then 0 else nth Br (k - 1))=last;clear HR2;go_wp2_with fail;clear m0 m3;go_loopw [10] (fun ii wr=>∃t:Nat,ii=.int .i64 t∧t≤i∧Hid (Fr [] w2 wr)∧Hid (Lay.early (clsOf s i) (Dec.pos s) (nth B (nb - 2)) t=false)) (fun ii _=>i - (intOf ii).toNat)
      case atStart=>exact⟨0,rfl,Nat.zero_le _,hid (Fr.refl _ _),rfl⟩
      case round =>
       obtain⟨t,rfl,hti,HFt,HEt⟩:=hrel;by_cases htl:t<i
       ·have htI:(t:Int)<(i:Int):=by omega
        obtain⟨gR,cR',hvR⟩:=owns_shape (by omega) HO2.out;cases hvR;have hnb2:=HBL.out (by omega);have r0:wr.cell? ⟨gR,t * 3,none⟩=some (.int .i32 (Dec.rune s t)):=by
         rw[(owns_fr0 HO2.out HFt.out).cellAt (t * 3) (by omega),(Dec.cells_at _ t _ (Dec.lst_at s i t htl)).1];rfl
        have HCL:=hid (Cls.ref10_any (Dec.rune s t) wr);have HK:=hid (clsOf_at s htl);have HS:=hid (show Lay.early (clsOf s i) (Dec.pos s) (nth B (nb - 2)) (t+1)=(nth (clsOf s i) t == 10 && decide (((Dec.pos s t:Nat):Int)<nth B (nb - 2))) by rw[Lay.early,HEt.out,Bool.false_or]);have HM:=hid (fun h=>early_mono (K:=clsOf s i) (P:=Dec.pos s) (e:=nth B (nb - 2)) (k:=t+1) (j:=i) (by omega) h);rw[←HK.out]at HCL
        have HR1:=hid (fun(w':World) (hf:Fr [] w2 w')=>(show w'.cell? ⟨gR,t * 3+1,none⟩=some (.int .i64 (Dec.pos s t:Nat)) by
         rw[(owns_fr0 HO2.out hf).cellAt (t * 3+1) (by omega),(Dec.cells_at _ t _ (Dec.lst_at s i t htl)).2.1];rfl))
        have HB1:=hid (fun(w':World) (hf:Fr [] w2 w')=>HRB.out.fr hf List.not_mem_nil (nb - 2) (by omega));generalize nth (clsOf s i) t=c at *;generalize Dec.rune s t=r at *;generalize Dec.pos s t=y at *;generalize nth B (nb - 2)=eb at *;have hwr:IntKind.i64.wrap ((nb:Int) - 2)=((nb - 2:Nat):Int):=by rw[IntKind.wrap_i64];omega
        have hnbI:(nb:Int) - 2=((nb - 2:Nat):Int):=by omega
        have hnbL:((nb - 2:Nat):Int)<(nb:Int):=by omega
        go_wp2_with fail;refine HCL.out.mono ?_;rintro e w3 ⟨rfl,hb3⟩;have HF3:=hid (HFt.out.trans (Fr.of_below (S:=[]) hb3));have r1:=HR1.out w3 HF3.out;have b1:=HB1.out w3 HF3.out;clear hb3 HCL r0;by_cases hc:c=10
        ·subst hc
         by_cases hy:((y:Nat):Int)<eb
         ·have HRv:=hid (show R=5 by rw[HR3.out,if_pos (HM.out (by rw[HS.out,decide_eq_true hy];rfl))])
          go_wp2_with fail;go_quiet (fail);go_wp2;go_ret;exact⟨retI HRv.out.symm,(HFb.out.trans (HF2.out.trans HF3.out)).drewN _⟩
         ·have hy':decide (((y:Nat):Int)<eb)=false:=decide_eq_false hy
          have HE2:=hid (show _=false from HS.out.trans (by rw[hy'];rfl));go_wp2_with fail;go_quiet (fail);go_wp2;go_roundw
          case rel=>exact⟨t+1,by go_num,by omega,hid (HF3.out.drewN _),HE2⟩
          case measure=>simp[intOf];omega
        ·have hc':(c == 10)=false:=by simp[hc]
         have HE2:=hid (show _=false from HS.out.trans (by rw[hc'];rfl));go_wp2_with fail;go_quiet (fail);go_wp2;go_roundw
         case rel=>exact⟨t+1,by go_num,by omega,hid (HF3.out.drewN _),HE2⟩
         case measure=>simp[intOf];omega
       ·obtain rfl:t=i:=by omega
        have HRv:=hid (show R=0 by rw[HR3.out,if_neg (by rw[HEt.out];simp)]);go_wp2;go_ret;exact⟨retI HRv.out.symm,HFb.out.trans (HF2.out.trans HFt.out)⟩
 ·have HRv:=hid (show R=3 by rw[HR.out,if_pos (.inl hWn)])
  have hWn1:¬(nW:Int)=(n:Int):=by omega
  have hWn2:((nW:Int) == (n:Int))=false:=by simp;omega
  go_wp2;go_ret;exact⟨retI HRv.out.symm,HFb.out.trans HF1.out⟩
theorem count_from {s:ByteArray}{n:Nat}(h:Dec.Ends s n):∀(f k:Nat),k≤n→n - k≤f→Lib.runeCountFrom s f (Dec.pos s k)=n - k
 | 0,k,h1,h2=>by rw[Lib.runeCountFrom];omega
 | f+1,k,h1,h2=>by
   rw[Lib.runeCountFrom]
   rcases Nat.lt_or_eq_of_le h1 with h3 | h3
   ·rw[if_pos (h.2 k h3)]
    have ih:=count_from h f (k+1) h3 (by omega);have e:Dec.pos s k+(Utf8.decode s (Dec.pos s k)).2=Dec.pos s (k+1):=rfl;rw[e,ih];omega
   ·rw[h3,h.1,if_neg (by omega)];omega
theorem count_ends {s:ByteArray}{n:Nat}(h:Dec.Ends s n):Lib.runeCount s=n:=by
 have h1:=count_from h s.size 0 (Nat.zero_le _) (by have:=Dec.le_pos s n;have:=h.1;omega);exact h1
def oor (x:Int):Bool:=decide (x<0) || decide (1073741824<x)
theorem oor_any (x:Int)(w:World):Calls Tryz.prog 222 #[.int .i64 x] w fun e w'=>e=.returned (.bool (oor x))∧w'=w:=by
 by_cases h1:x<0
 ·have e:oor x=true:=by simp[oor,h1]
  rw[e];go_enter Tryz.func222,Tryz.ntmps222;go_wp2;go_ret;exact⟨rfl,rfl⟩
 ·have h1':decide (x<0)=false:=decide_eq_false h1
  by_cases h2:1073741824<x
  ·have e:oor x=true:=by simp[oor,h2]
   rw[e];go_enter Tryz.func222,Tryz.ntmps222;go_wp2;go_ret;exact⟨rfl,rfl⟩
  ·have e:oor x=false:=by simp[oor];omega
   have h2':decide (1073741824<x)=false:=decide_eq_false h2;rw[e];go_enter Tryz.func222,Tryz.ntmps222;go_wp2;go_ret;exact⟨rfl,rfl⟩
set_option maxHeartbeats 2000000 in
theorem idx_any (W:List Int)(v:Value)(w:World)(hv:slAt w v W)(hl:W.length≤5000):Calls Tryz.prog 242 #[v,.func (.func 222) #[] #[]] w fun e w'=>∃r:Int,e=.returned (.int .i64 r)∧((r=-1∧wOk W W.length=true)∨(0≤r∧wOk W W.length=false))∧w'=w:=by
 obtain⟨a,c,rfl,hrow⟩:=hv;have HR:=hid hrow;obtain⟨n,hn⟩:∃n,n=W.length:=⟨_,rfl⟩;rw[←hn]at hl HR ⊢;have HN:=hid hn;clear hrow hn;go_enter Tryz.func242,Tryz.ntmps242;go_wp2_with fail;go_loop [8] (fun ii=>∃i:Nat,ii=.int .i64 i∧i≤n∧Hid (∀j,j<i→0≤nth W j∧nth W j≤1073741824)) (fun ii=>n - (intOf ii).toNat)
 case atStart=>exact⟨0,rfl,Nat.zero_le _,hid (fun j hj=>absurd hj (Nat.not_lt_zero _))⟩
 case round =>
  obtain⟨i,rfl,hin,HM⟩:=hrel;by_cases hil:i<n
  ·have hiI:(i:Int)<(n:Int):=by omega
   obtain⟨g,o,ha,hr⟩:=HR.out.resolve_left (by omega);have d0:=hr i hil;subst ha;have HO:=hid (oor_any (nth W i));have HNO:=hid (fun h=>wOk_not (W:=W) hil h);cases ho:oor (nth W i)
   ·have HM2:=hid (show ∀j,j<i+1→0≤nth W j∧nth W j≤1073741824 from fun j hj=>by
     rcases Nat.lt_or_eq_of_le (Nat.le_of_lt_succ hj)with h | h
     ·exact HM.out j h
     ·rw[h];simp[oor]at ho;omega)
    rw[ho]at HO;clear ho;generalize nth W i=y at *;go_wp2_with (go_at_call 222;refine(HO.out _).mono ?_;rintro e w' ⟨rfl,rfl⟩);go_round
    case rel=>exact⟨i+1,by go_num,by omega,HM2⟩
    case measure=>simp[intOf];omega
   ·have HF:=hid (HNO.out (fun h=>by simp[oor]at ho;omega))
    rw[ho]at HO;clear ho;generalize nth W i=y at *;go_wp2_with (go_at_call 222;refine(HO.out _).mono ?_;rintro e w' ⟨rfl,rfl⟩);go_ret;exact⟨_,rfl,.inr ⟨by omega,HF.out⟩,rfl⟩
  ·have HT:=hid (wOk_all (W:=W) (n:=n) (fun j hj=>HM.out j (by omega)))
   go_wp2;go_ret;exact⟨_,rfl,.inl ⟨rfl,HT.out⟩,rfl⟩
set_option maxHeartbeats 2000000 in
theorem cont_any (W:List Int)(v:Value)(w:World)(hv:slAt w v W)(hl:W.length≤5000):Calls Tryz.prog 221 #[v,.func (.func 222) #[] #[]] w fun e w'=>e=.returned (.bool (!wOk W W.length))∧w'=w:=by
 have H:=hid (idx_any W v w hv hl);generalize wOk W W.length=ok at *;clear hv;go_enter Tryz.func221,Tryz.ntmps221;go_wp2_with fail;refine H.out.mono ?_;rintro e w' ⟨r,rfl,hr,rfl⟩
 rcases hr with⟨rfl,rfl⟩ | ⟨h0,rfl⟩
 ·go_wp2
  go_ret;exact⟨rfl,rfl⟩
 ·go_wp2
  go_ret;exact⟨rfl,rfl⟩
theorem fr_iter (w:World)(s:ByteArray)(q:Nat):Fr [] w (w.iter s q):=(Fr.refl [] w).alloc (.stringIter s q)
def errAt (w:World)(g:Nat):Prop:=∃t v,w.cell? ⟨g,0,none⟩=some (.iface t v)
def okW (W:List Int)(n:Nat):Bool:=decide (W.length=n) && wOk W n
set_option maxHeartbeats 2000000 in
theorem ckW_any (s:ByteArray)(n:Nat)(W:List Int)(v:Value)(w:World)(hs:s.size≤400)(hend:Dec.Ends s n)(hv:slAt w v W)(hl:W.length≤5000)(h5:errAt w 5)(h6:errAt w 6) :
 Calls Tryz.prog 200 #[.string s,v] w fun e w'=>∃x,e=.returned x∧((∃t u,x=.iface t u∧okW W n=false)∨(x=.nilIface∧okW W n=true))∧Fr [] w w':=by
 have HC:=hid (Tryz.utf8_RuneCountInString s w (by omega));rw[count_ends hend]at HC;obtain⟨a,c,rfl,hrow⟩:=hv;obtain⟨t5,v5,c5⟩:=h5;obtain⟨t6,v6,c6⟩:=h6;have hn4:n≤400:=by have:=Dec.le_pos s n;have:=hend.1;omega
 have HV:=hid (show slAt w (.slice a W.length c) W from⟨a,c,rfl,hrow⟩);have HK:=hid (fun(w':World) (hf:Fr [] w w')=>cont_any W _ w' (HV.out.fr hf) hl);obtain⟨ok,hok⟩:∃ok,ok=okW W n:=⟨_,rfl⟩;rw[←hok];obtain⟨m,hm⟩:∃m,m=W.length:=⟨_,rfl⟩;rw[←hm]at HK hl ⊢;have HOK:=hid (show ok=(decide (m=n) && wOk W n) by rw[hok,hm];rfl);clear hrow hend hm hok;go_enter Tryz.func200,Tryz.ntmps200;go_wp2_with fail;refine HC.out.mono ?_;rintro e w1 ⟨rfl,q,rfl⟩;have hf1:Fr [] w (w.iter s q):=fr_iter w s q;have HF1:=hid hf1;have HK1:=hid (HK.out _ hf1);have d5:=hf1.cell c5 List.not_mem_nil;have d6:=hf1.cell c6 List.not_mem_nil;obtain⟨w1,hw1⟩:∃w1,w1=w.iter s q:=⟨_,rfl⟩;rw[←hw1]at d5 d6 HF1 HK1 ⊢;clear hw1 hf1 c5 c6 HC HK;by_cases hmn:m=n
 ·subst hmn
  have HOK2:=hid (show ok=wOk W m by rw[HOK.out];simp);clear HOK;generalize wOk W m=wk at *;cases wk
  all_goals (
   go_wp2_with (go_at_call 221;refine HK1.out.mono ?_;rintro e w' ⟨rfl,rfl⟩)
   go_ret
   first
   | exact⟨_,rfl,.inl ⟨_,_,rfl,HOK2.out⟩,HF1.out⟩
   | exact⟨_,rfl,.inr ⟨rfl,HOK2.out⟩,HF1.out⟩)
 ·have HOK2:=hid (show ok=false by rw[HOK.out,decide_eq_false hmn];rfl)
  have hnn:((m:Int) == (n:Int))=false:=by simp;omega
  have hnn2:¬(m:Int)=(n:Int):=by omega
  go_wp2;go_ret;exact⟨_,rfl,.inl ⟨_,_,rfl,HOK2.out⟩,HF1.out⟩
end Go.Proofs.YtnakejhohdbfdaaGreatDoor
namespace Go.Proofs.YtnakejhohdbfdaaGreatDoor.Lay
open Go Dec Bnd Lev
theorem up_bound (l c:Int):0≤up l c∧up l c≤2:=by unfold up;repeat(first | omega | split)
theorem raise_bound (K C:List Int)(base:Int)(hb:0≤base∧base≤1)(L:List Int)(hL:∀i,0≤nth L i∧nth L i≤9):∀k,(0≤(raiseTo K C base k L).1∧(raiseTo K C base k L).1≤11)∧(∀i,0≤nth (raiseTo K C base k L).2 i∧nth (raiseTo K C base k L).2 i≤11)∧∀i,k≤i→nth (raiseTo K C base k L).2 i≤9
 | 0=>by
   refine⟨by simp only[raiseTo];omega,fun i=>?_,fun i _=>(hL i).2⟩;have:=hL i;simp only[raiseTo];omega
 | k+1=>by
   obtain⟨h1,h2,h3⟩:=raise_bound K C base hb L hL k;have hset:∀(M:List Int) (v:Int) (i:Nat),(0≤v∧v≤11)→(0≤nth M i∧nth M i≤11)→(0≤nth (M.set k v) i∧nth (M.set k v) i≤11)∧(k+1≤i→nth (M.set k v) i=nth M i):=by
    intro M v i hv hm;by_cases e:k=i
    ·subst e
     refine⟨?_,fun h=>by omega⟩;by_cases hl:k<M.length
     ·rw[nth,List.getElem?_set_self hl];exact hv
     ·rw[nth,List.getElem?_eq_none (by rw[List.length_set];omega)];decide
    ·rw[nth,List.getElem?_set_ne e];exact⟨hm,fun _=>rfl⟩
   rw[raiseTo]
   try dsimp only
   split
   ·exact⟨h1,fun i=>(hset _ _ i h1 (h2 i)).1,fun i hi=>by rw[(hset _ _ i h1 (h2 i)).2 hi];exact h3 i (by omega)⟩
   ·have hu:=up_bound (nth (raiseTo K C base k L).2 k) (nth C k)
    have hk:=h3 k (Nat.le_refl _);have hk0:=(h2 k).1;have hv:0≤nth (raiseTo K C base k L).2 k+up (nth (raiseTo K C base k L).2 k) (nth C k)∧nth (raiseTo K C base k L).2 k+up (nth (raiseTo K C base k L).2 k) (nth C k)≤11:=by omega
    exact⟨hv,fun i=>(hset _ _ i hv (h2 i)).1,fun i hi=>by rw[(hset _ _ i hv (h2 i)).2 hi];exact h3 i (by omega)⟩
theorem lev_bound (R K:List Int)(base:Int)(hb:base=0∨base=1)(i:Nat):0≤nth (levels R K base) i∧nth (levels R K base) i≤11 :=
 (raise_bound K _ base (by omega) _ (emb_inv K base hb K.length (Nat.le_refl _)).small K.length).2.1 i
theorem elv_bound (R K:List Int)(base:Int)(hb:base=0∨base=1)(ed:Nat→Bool)(i:Nat):0≤elv K (levels R K base) base ed i∧elv K (levels R K base) base ed i≤11:=by
 have:=lev_bound R K base hb i;unfold elv;split <;> omega
def cidx (B:List Int)(x:Int):Nat:=B.countP (fun y=>decide (y<x))
def ei (B:List Int)(c:Nat)(Br:List Int)(k:Nat):Nat:=if k=0 then 0 else if k≤Br.length then cidx B (nth Br (k - 1))else c
def edg (I:List Nat)(B:List Int)(Br:List Int)(j:Nat):Bool:=(List.range (Br.length+2)).any fun k=>decide (nix I (ei B (I.length - 1) Br k)=j)
theorem cidx_at {B:List Int}{z:Int}(hr:Rises B z){x:Int}(hc:B.contains x=true):cidx B x<B.length∧B.getD (cidx B x) 0=x:=by
 obtain⟨k,hk⟩:=cut_exists x B hr.sorted;rw[cidx,cut_count hk];exact(contains_iff hr.sorted hk).1 hc
theorem nth_getD (l:List Int)(i:Nat):nth l i=l.getD i 0:=by rw[nth,List.getD]
theorem bnd_nth {s:ByteArray}{n:Nat}(h:Dec.Ends s n){k:Nat}(hk:k<(bix s n).length):nth (bnd s n) k=((pos s (nix (bix s n) k):Nat):Int):=by
 rw[bnd_bix h,nth,nix,List.getElem?_map,List.getElem?_eq_getElem hk];rfl
theorem bnd_length {s:ByteArray}{n:Nat}(h:Dec.Ends s n):(bnd s n).length=(bix s n).length:=by rw[bnd_bix h,List.length_map]
structure Edges (s:ByteArray)(n:Nat)(Br:List Int):Prop where
 e0:ei (bnd s n) (cn s n) Br 0=0
 eN:ei (bnd s n) (cn s n) Br (Br.length+1)=cn s n
 mono:∀i j,i<j→j≤Br.length+1→ei (bnd s n) (cn s n) Br i<ei (bnd s n) (cn s n) Br j
 le:∀k,k≤Br.length+1→ei (bnd s n) (cn s n) Br k≤cn s n
 at_:∀k,k<Br.length→((pos s (nix (bix s n) (ei (bnd s n) (cn s n) Br (k+1))):Nat):Int)=nth Br k
theorem edges_ok {s:ByteArray}{n:Nat}(h:Dec.Ends s n)(hn:0<n)(Br:List Int)(hB:brTo (bnd s n) s.size Br Br.length=true):Edges s n Br:=by
 have hr:=rises_bnd h;have hlen:=bnd_length h;have hl2:=bix_len s n;have hc:∀k,k<Br.length→cidx (bnd s n) (nth Br k)<(bix s n).length∧((pos s (nix (bix s n) (cidx (bnd s n) (nth Br k))):Nat):Int)=nth Br k:=fun k hk=>by
  obtain⟨a1,a2⟩:=cidx_at hr (brTo_at hB k hk).2.2;rw[hlen]at a1;refine⟨a1,?_⟩;rw[←bnd_nth h a1,nth_getD];exact a2
 have step:∀k,k≤Br.length→ei (bnd s n) (cn s n) Br k<ei (bnd s n) (cn s n) Br (k+1):=by
  intro k hk;have key:∀a b,a<(bix s n).length→b<(bix s n).length→((pos s (nix (bix s n) a):Nat):Int)<((pos s (nix (bix s n) b):Nat):Int)→a<b:=by
   intro a b ha hb hlt
   rcases Nat.lt_trichotomy a b with h1 | h1 | h1
   ·exact h1
   ·subst h1;omega
   ·have:=pos_mono s _ _ (nix_lt (bix_sorted s n) h1 ha);omega
  have hcl:cn s n<(bix s n).length:=by rw[cn];omega
  have hend:((pos s (nix (bix s n) (cn s n)):Nat):Int)=((s.size:Nat):Int):=by rw[bix_last,h.1]
  have h0:((pos s (nix (bix s n) 0):Nat):Int)=0:=by rw[bix_zero];rfl
  have hs0:(0:Int)<((s.size:Nat):Int):=by have:=h.2 0 hn;omega
  by_cases hk0:k=0
  ·subst hk0
   have e1:ei (bnd s n) (cn s n) Br 0=0:=rfl;rw[e1];by_cases hb:0<Br.length
   ·have e2:ei (bnd s n) (cn s n) Br (0+1)=cidx (bnd s n) (nth Br 0):=by rw[ei,if_neg (by omega),if_pos (by omega)]
    rw[e2];have h1:=brTo_at hB 0 hb;rw[if_pos rfl]at h1;exact key _ _ (by omega) (hc 0 hb).1 (by rw[h0,(hc 0 hb).2];exact h1.1)
   ·have e2:ei (bnd s n) (cn s n) Br (0+1)=cn s n:=by rw[ei,if_neg (by omega),if_neg (by omega)]
    rw[e2];exact key _ _ (by omega) hcl (by rw[h0,hend];exact hs0)
  ·have e1:ei (bnd s n) (cn s n) Br k=cidx (bnd s n) (nth Br (k - 1)):=by rw[ei,if_neg hk0,if_pos hk]
   rw[e1];have h1:=hc (k - 1) (by omega);by_cases hb:k<Br.length
   ·have e2:ei (bnd s n) (cn s n) Br (k+1)=cidx (bnd s n) (nth Br k):=by rw[ei,if_neg (by omega),if_pos (by omega),Nat.add_sub_cancel]
    rw[e2];have h2:=brTo_at hB k hb;rw[if_neg hk0]at h2;exact key _ _ h1.1 (hc k hb).1 (by rw[h1.2,(hc k hb).2];exact h2.1)
   ·have e2:ei (bnd s n) (cn s n) Br (k+1)=cn s n:=by rw[ei,if_neg (by omega),if_neg (by omega)]
    rw[e2];have h2:=(brTo_at hB (k - 1) (by omega)).2.1;exact key _ _ h1.1 hcl (by rw[h1.2,hend];exact h2)
 have mono:∀d i,i+d+1≤Br.length+1→ei (bnd s n) (cn s n) Br i<ei (bnd s n) (cn s n) Br (i+d+1):=by
  intro d
  induction d with
  | zero=>intro i hi;exact step i (by omega)
  | succ d ih=>intro i hi;exact Nat.lt_trans (ih i (by omega)) (step (i+d+1) (by omega))
 have eN:ei (bnd s n) (cn s n) Br (Br.length+1)=cn s n:=by rw[ei,if_neg (by omega),if_neg (by omega)]
 have mono':∀i j,i<j→j≤Br.length+1→ei (bnd s n) (cn s n) Br i<ei (bnd s n) (cn s n) Br j:=fun i j hij hj=>by
  have:=mono (j - i - 1) i (by omega)
  rwa [show i+(j - i - 1)+1=j by omega]at this
 refine⟨rfl,eN,mono',fun k hk=>?_,fun k hk=>?_⟩
 ·rcases Nat.lt_or_eq_of_le hk with h1 | h1
  ·have:=mono' k (Br.length+1) h1 (Nat.le_refl _);rw[eN]at this;omega
  ·rw[h1,eN];exact Nat.le_refl _
 ·rw[ei,if_neg (by omega),if_pos (by omega),Nat.add_sub_cancel];exact(hc k hk).2
theorem edg_yes {s:ByteArray}{n:Nat}{Br:List Int}{k:Nat}(hk:k≤Br.length+1):edg (bix s n) (bnd s n) Br (nix (bix s n) (ei (bnd s n) (cn s n) Br k))=true:=by
 rw[edg,List.any_eq_true];exact⟨k,List.mem_range.2 (by omega),decide_eq_true rfl⟩
theorem edg_no {s:ByteArray}{n:Nat}{Br:List Int}(E:Edges s n Br){k:Nat}(hk:k≤Br.length){j:Nat}(h1:nix (bix s n) (ei (bnd s n) (cn s n) Br k)<j)(h2:j<nix (bix s n) (ei (bnd s n) (cn s n) Br (k+1))):edg (bix s n) (bnd s n) Br j=false:=by
 have hcl:cn s n<(bix s n).length:=by have:=bix_len s n;rw[cn];omega
 cases h:edg (bix s n) (bnd s n) Br j
 ·rfl
 ·rw[edg,List.any_eq_true]at h
  obtain⟨m,hm,e⟩:=h;have hm':=List.mem_range.1 hm;have e':nix (bix s n) (ei (bnd s n) (cn s n) Br m)=j:=of_decide_eq_true e
  rcases Nat.lt_or_ge m (k+1)with h3 | h3
  ·have h4:ei (bnd s n) (cn s n) Br m≤ei (bnd s n) (cn s n) Br k:=by
    rcases Nat.lt_or_eq_of_le (Nat.le_of_lt_succ h3)with h5 | h5
    ·exact Nat.le_of_lt (E.mono m k h5 (by omega))
    ·rw[h5];exact Nat.le_refl _
   rcases Nat.lt_or_eq_of_le h4 with h5 | h5
   ·have:=nix_lt (bix_sorted s n) h5 (by have:=E.le k (by omega);omega);omega
   ·rw[h5]at e';omega
  ·have h4:ei (bnd s n) (cn s n) Br (k+1)≤ei (bnd s n) (cn s n) Br m:=by
    rcases Nat.lt_or_eq_of_le h3 with h5 | h5
    ·exact Nat.le_of_lt (E.mono (k+1) m h5 (by omega))
    ·rw[←h5];exact Nat.le_refl _
   rcases Nat.lt_or_eq_of_le h4 with h5 | h5
   ·have:=nix_lt (bix_sorted s n) h5 (by have:=E.le m (by omega);omega);omega
   ·rw[←h5]at e';omega
end Go.Proofs.YtnakejhohdbfdaaGreatDoor.Lay
namespace Go.Proofs.YtnakejhohdbfdaaGreatDoor.Cls
open Go.RowKit Dec Kin Bnd
theorem ints_at {l:List Int}{j:Nat}(h:j<l.length):(ints64 l)[j]?=some (.int .i64 (l.getD j 0)):=by
 rw[ints64,List.getElem?_map,List.getElem?_eq_getElem h];simp[List.getD,h]
theorem search35 (l:List Int)(z:Int)(hr:Rises l z)(x:Int)(k g cap:Nat)(w:World)(hc:Cut l x k)(hl:l.length≤1000002)(hcell:∀j,j<l.length→w.cell? ⟨g,j,none⟩=some (.int .i64 (l.getD j 0))) :
 Calls Tryz.prog 166 #[.slice (some ⟨g,0,none⟩) l.length cap,.int .i64 x] w fun e w'=>e=.returned (.tuple #[.int .i64 (k:Nat),.bool (l.contains x)])∧∃q,w'=w.drewN q:=by
 have h:=Any.slices_BinarySearch_int Tryz.laysNm225 g 0 l.length cap l x w (Nat.le_refl _) (by omega) (fun j hj=>by rw[Nat.zero_add];exact hcell j hj)
  (by rw[List.take_length];exact hr.sorted.imp fun h=>Int.le_of_lt h)
 rw[List.take_length]at h;have e:l.countP (fun y=>decide (y<x))=k:=cut_count hc;rw[e]at h;exact h
set_option maxRecDepth 10000 in
set_option maxHeartbeats 2000000 in
theorem fn35_any (l:List Int)(z:Int)(hr:Rises l z)(off:Int)(up:Bool)(k g cap:Nat)(w:World)(hz:0≤z)(hc:Cut l (min (max off 0) z) k)(hl:l.length≤1000002)(hcell:∀j,j<l.length→w.cell? ⟨g,j,none⟩=some (.int .i64 (l.getD j 0))) :
 Calls Tryz.prog 100 #[.slice (some ⟨g,0,none⟩) l.length cap,.int .i64 off,.bool up] w fun e w'=>e=.returned (.int .i64 (snapL l (min (max off 0) z) up k))∧∃q,w'=w.drewN q:=by
 have HR:=hide hr;have HCUT:=hide hc;have hk:=hr.cut_lt hc (by omega);have hx0:0≤min (max off 0) z:=by omega
 have HX0:=hide hx0;have HCELL:=hide hcell;have hkI:(k:Int)<(l.length:Int):=by omega
 obtain⟨d,hd⟩:∃d,l.length=d+1:=⟨l.length - 1,by omega⟩;have hzc:w.cell? ⟨g,d,none⟩=some (.int .i64 z):=by
  rw[hcell d (by omega),List.getD,show d=l.length - 1 by omega,hr.last];rfl
 have hdI:(l.length:Int) - 1=(d:Int):=by omega
 have hdlt:(d:Int)<(l.length:Int):=by omega
 generalize hsn:snapL l (min (max off 0) z) up k=sn;have HSN:=hide hsn;clear hr hc hcell hx0 hsn hd;go_enter Tryz.func100,Tryz.ntmps100;go_wp2_with fail;refine(search35 l _ HR.out _ k g cap w HCUT.out (by omega) HCELL.out).mono ?_;rintro e w2 ⟨rfl,q,rfl⟩;clear hzc hdI hdlt;cases hct:l.contains (min (max off 0) z)
 ·have hk0:=HR.out.cut_pos HCUT.out HX0.out hct
  cases up
  ·have E:l.getD (k - 1) 0=sn:=by rw[←HSN.out];unfold snapL;rw[hct];rfl
   obtain⟨r,hr⟩:∃r,k=r+1:=⟨k - 1,by omega⟩;subst hr;have c:=HCELL.out r (by omega);rw[show r+1 - 1=r by omega]at E;rw[E]at c;have hri:(r:Int)<(l.length:Int):=by omega
   clear E hct hkI;go_wp2;go_ret;exact⟨rfl,q,rfl⟩
  ·have E:l.getD k 0=sn:=snap_up.symm.trans HSN.out
   have c:=HCELL.out k hk;rw[E]at c;clear E hct;go_wp2;go_ret;exact⟨rfl,q,rfl⟩
 ·have E:l.getD k 0=sn:=by rw[←HSN.out];unfold snapL;rw[hct];rfl
  have c:=HCELL.out k hk;rw[E]at c;clear E hct;go_wp2;go_ret;exact⟨rfl,q,rfl⟩
set_option maxRecDepth 10000 in
set_option maxHeartbeats 4000000 in
theorem ref19_low (s:ByteArray)(off:Int)(up:Bool)(w:World)(hs:s.size≤1000000)(hT:Lib.Utf8Tabs 1 2 w)(n k:Nat)(hend:Dec.Ends s n)(hx:off<0)(hc:Cut (bnd s n) 0 k) :
 Calls Tryz.prog 58 #[.string s,.int .i64 off,.bool up] w fun e w'=>e=.returned (.int .i64 (snapL (bnd s n) 0 up k))∧Below w.heap.size w w':=by
 have CB:=hide (ref15_any s w hs hT n hend);have HR:=hide (rises_bnd hend);have HCUT:=hide hc;have hk:=HR.out.cut_lt hc (by omega);have hlen:=bnd_len s n;have hns:n≤s.size:=by have:=le_pos s n;have:=hend.1;omega
 generalize hsn:snapL (bnd s n) 0 up k=sn;have HSN:=hide hsn;clear hT hend hc hsn;generalize bnd s n=l at *;go_enter Tryz.func58,Tryz.ntmps58;go_wp2_with fail;refine CB.out.mono ?_;rintro e w1 ⟨v,rfl,own1,hb1⟩;obtain⟨g,cap,hv⟩:=owns_shape_pos (by omega) own1;subst hv;have HO:=hide own1;have HB:=hide hb1;clear own1 hb1 CB;have HCELL:Hid (∀j,j<l.length→w1.cell? ⟨g,j,none⟩=some (.int .i64 (l.getD j 0))):=fun j hj=>(HO.out.cellAt j (by omega)).trans (ints_at hj)
 go_wp2_with fail;go_loop [8,9] (fun b i=>∃j:Nat,j≤l.length∧i=.int .i64 j∧b=.int .i64 (best l 0 j)) (fun _ i=>l.length - (intOf i).toNat)
 case atStart=>exact⟨0,Nat.zero_le _,rfl,rfl⟩
 case round =>
  obtain⟨j,hj,rfl,rfl⟩:=hrel;by_cases hjl:j<l.length
  ·have c:=HCELL.out j hjl
   by_cases hle:l.getD j 0≤0
   ·have HBS:Hid (best l 0 (j+1)=l.getD j 0):=by rw[best,if_pos hle];rfl
    generalize l.getD j 0=y at c hle HBS;generalize best l 0 j=b0;go_wp2;go_round
    case rel=>exact⟨j+1,by omega,by go_num,by rw[HBS.out]⟩
    case measure=>simp[intOf];omega
   ·have HBS:Hid (best l 0 (j+1)=best l 0 j):=by rw[best,if_neg hle];rfl
    generalize l.getD j 0=y at c hle;generalize best l 0 j=b0 at HBS;go_wp2;go_round
    case rel=>exact⟨j+1,by omega,by go_num,by rw[HBS.out]⟩
    case measure=>simp[intOf];omega
  ·obtain rfl:j=l.length:=by omega
   generalize hb0:best l 0 l.length=b0;have HB0:=hide hb0;clear hb0;cases up
   ·have E:b0=sn:=HB0.out.symm.trans ((snap_down HR.out HCUT.out (by omega)).trans HSN.out)
    subst E;go_wp2;go_ret;exact⟨rfl,HB.out⟩
   ·by_cases hbx:b0=0
    ·have E:b0=sn:=by rw[hbx];exact(snap_same HR.out HCUT.out (by omega) (HB0.out.trans hbx)).symm.trans HSN.out
     subst E;have hbb:(b0 == 0)=true:=by rw[hbx];simp
     clear hbx;go_wp2;go_ret;exact⟨rfl,HB.out⟩
    ·have hbb:(b0 == 0)=false:=beq_eq_false_iff_ne.2 hbx
     have E:l.getD k 0=sn:=snap_up.symm.trans HSN.out;have HE:=hide E;clear E hbx;go_wp2_with fail;go_loop [10] (fun i=>∃j:Nat,j≤k∧i=.int .i64 j) (fun i=>k+1 - (intOf i).toNat)
     case atStart=>exact⟨0,Nat.zero_le _,rfl⟩
     case round =>
      obtain⟨j,hjk,rfl⟩:=hrel;have hjl2:j<l.length:=by omega
      have c:=HCELL.out j hjl2;by_cases hlt:j<k
      ·have hy:=HCUT.out.2.1 j hlt
       generalize l.getD j 0=y at c hy;go_wp2;go_round
       case rel=>exact⟨j+1,by omega,by go_num⟩
       case measure=>simp[intOf];omega
      ·obtain rfl:j=k:=by omega
       have hy:=HCUT.out.2.2 j (Nat.le_refl _) hjl2;rw[HE.out]at c hy;go_wp2;go_ret;exact⟨rfl,HB.out⟩
set_option maxRecDepth 10000 in
set_option maxHeartbeats 4000000 in
theorem ref19_mid (s:ByteArray)(off:Int)(up:Bool)(w:World)(hs:s.size≤1000000)(hT:Lib.Utf8Tabs 1 2 w)(n k:Nat)(hend:Dec.Ends s n)(hx:0≤off)(hx2:off≤(s.size:Int))(hc:Cut (bnd s n) off k) :
 Calls Tryz.prog 58 #[.string s,.int .i64 off,.bool up] w fun e w'=>e=.returned (.int .i64 (snapL (bnd s n) off up k))∧Below w.heap.size w w':=by
 have CB:=hide (ref15_any s w hs hT n hend);have HR:=hide (rises_bnd hend);have HCUT:=hide hc;have hk:=HR.out.cut_lt hc (by omega);have hlen:=bnd_len s n;have hns:n≤s.size:=by have:=le_pos s n;have:=hend.1;omega
 generalize hsn:snapL (bnd s n) off up k=sn;have HSN:=hide hsn;clear hT hend hc hsn;generalize bnd s n=l at *;go_enter Tryz.func58,Tryz.ntmps58;go_wp2_with fail;refine CB.out.mono ?_;rintro e w1 ⟨v,rfl,own1,hb1⟩;obtain⟨g,cap,hv⟩:=owns_shape_pos (by omega) own1;subst hv;have HO:=hide own1;have HB:=hide hb1;clear own1 hb1 CB;have HCELL:Hid (∀j,j<l.length→w1.cell? ⟨g,j,none⟩=some (.int .i64 (l.getD j 0))):=fun j hj=>(HO.out.cellAt j (by omega)).trans (ints_at hj)
 go_wp2_with fail;go_loop [8,9] (fun b i=>∃j:Nat,j≤l.length∧i=.int .i64 j∧b=.int .i64 (best l off j)) (fun _ i=>l.length - (intOf i).toNat)
 case atStart=>exact⟨0,Nat.zero_le _,rfl,rfl⟩
 case round =>
  obtain⟨j,hj,rfl,rfl⟩:=hrel;by_cases hjl:j<l.length
  ·have c:=HCELL.out j hjl
   by_cases hle:l.getD j 0≤off
   ·have HBS:Hid (best l off (j+1)=l.getD j 0):=by rw[best,if_pos hle];rfl
    generalize l.getD j 0=y at c hle HBS;generalize best l off j=b0;go_wp2;go_round
    case rel=>exact⟨j+1,by omega,by go_num,by rw[HBS.out]⟩
    case measure=>simp[intOf];omega
   ·have HBS:Hid (best l off (j+1)=best l off j):=by rw[best,if_neg hle];rfl
    generalize l.getD j 0=y at c hle;generalize best l off j=b0 at HBS;go_wp2;go_round
    case rel=>exact⟨j+1,by omega,by go_num,by rw[HBS.out]⟩
    case measure=>simp[intOf];omega
  ·obtain rfl:j=l.length:=by omega
   generalize hb0:best l off l.length=b0;have HB0:=hide hb0;clear hb0;cases up
   ·have E:b0=sn:=HB0.out.symm.trans ((snap_down HR.out HCUT.out (by omega)).trans HSN.out)
    subst E;go_wp2;go_ret;exact⟨rfl,HB.out⟩
   ·by_cases hbx:b0=off
    ·have E:b0=sn:=by rw[hbx];exact(snap_same HR.out HCUT.out (by omega) (HB0.out.trans hbx)).symm.trans HSN.out
     subst E;have hbb:(b0 == off)=true:=by rw[hbx];simp
     clear hbx;go_wp2;go_ret;exact⟨rfl,HB.out⟩
    ·have hbb:(b0 == off)=false:=beq_eq_false_iff_ne.2 hbx
     have E:l.getD k 0=sn:=snap_up.symm.trans HSN.out;have HE:=hide E;clear E hbx;go_wp2_with fail;go_loop [10] (fun i=>∃j:Nat,j≤k∧i=.int .i64 j) (fun i=>k+1 - (intOf i).toNat)
     case atStart=>exact⟨0,Nat.zero_le _,rfl⟩
     case round =>
      obtain⟨j,hjk,rfl⟩:=hrel;have hjl2:j<l.length:=by omega
      have c:=HCELL.out j hjl2;by_cases hlt:j<k
      ·have hy:=HCUT.out.2.1 j hlt
       generalize l.getD j 0=y at c hy;go_wp2;go_round
       case rel=>exact⟨j+1,by omega,by go_num⟩
       case measure=>simp[intOf];omega
      ·obtain rfl:j=k:=by omega
       have hy:=HCUT.out.2.2 j (Nat.le_refl _) hjl2;rw[HE.out]at c hy;go_wp2;go_ret;exact⟨rfl,HB.out⟩
set_option maxRecDepth 10000 in
set_option maxHeartbeats 4000000 in
theorem ref19_high (s:ByteArray)(off:Int)(up:Bool)(w:World)(hs:s.size≤1000000)(hT:Lib.Utf8Tabs 1 2 w)(n k:Nat)(hend:Dec.Ends s n)(hx:(s.size:Int)<off)(hc:Cut (bnd s n) (s.size:Int) k) :
 Calls Tryz.prog 58 #[.string s,.int .i64 off,.bool up] w fun e w'=>e=.returned (.int .i64 (snapL (bnd s n) (s.size:Int) up k))∧Below w.heap.size w w':=by
 have CB:=hide (ref15_any s w hs hT n hend);have HR:=hide (rises_bnd hend);have HCUT:=hide hc;have hk:=HR.out.cut_lt hc (by omega);have hlen:=bnd_len s n;have hns:n≤s.size:=by have:=le_pos s n;have:=hend.1;omega
 generalize hsn:snapL (bnd s n) (s.size:Int) up k=sn;have HSN:=hide hsn;clear hT hend hc hsn;generalize bnd s n=l at *;go_enter Tryz.func58,Tryz.ntmps58;go_wp2_with fail;refine CB.out.mono ?_;rintro e w1 ⟨v,rfl,own1,hb1⟩;obtain⟨g,cap,hv⟩:=owns_shape_pos (by omega) own1;subst hv;have HO:=hide own1;have HB:=hide hb1;clear own1 hb1 CB;have HCELL:Hid (∀j,j<l.length→w1.cell? ⟨g,j,none⟩=some (.int .i64 (l.getD j 0))):=fun j hj=>(HO.out.cellAt j (by omega)).trans (ints_at hj)
 go_wp2_with fail;go_loop [8,9] (fun b i=>∃j:Nat,j≤l.length∧i=.int .i64 j∧b=.int .i64 (best l (s.size:Int) j)) (fun _ i=>l.length - (intOf i).toNat)
 case atStart=>exact⟨0,Nat.zero_le _,rfl,rfl⟩
 case round =>
  obtain⟨j,hj,rfl,rfl⟩:=hrel;by_cases hjl:j<l.length
  ·have c:=HCELL.out j hjl
   by_cases hle:l.getD j 0≤(s.size:Int)
   ·have HBS:Hid (best l (s.size:Int) (j+1)=l.getD j 0):=by rw[best,if_pos hle];rfl
    generalize l.getD j 0=y at c hle HBS;generalize best l (s.size:Int) j=b0;go_wp2;go_round
    case rel=>exact⟨j+1,by omega,by go_num,by rw[HBS.out]⟩
    case measure=>simp[intOf];omega
   ·have HBS:Hid (best l (s.size:Int) (j+1)=best l (s.size:Int) j):=by rw[best,if_neg hle];rfl
    generalize l.getD j 0=y at c hle;generalize best l (s.size:Int) j=b0 at HBS;go_wp2;go_round
    case rel=>exact⟨j+1,by omega,by go_num,by rw[HBS.out]⟩
    case measure=>simp[intOf];omega
  ·obtain rfl:j=l.length:=by omega
   generalize hb0:best l (s.size:Int) l.length=b0;have HB0:=hide hb0;clear hb0;cases up
   ·have E:b0=sn:=HB0.out.symm.trans ((snap_down HR.out HCUT.out (by omega)).trans HSN.out)
    subst E;go_wp2;go_ret;exact⟨rfl,HB.out⟩
   ·by_cases hbx:b0=(s.size:Int)
    ·have E:b0=sn:=by rw[hbx];exact(snap_same HR.out HCUT.out (by omega) (HB0.out.trans hbx)).symm.trans HSN.out
     subst E;have hbb:(b0 == (s.size:Int))=true:=by rw[hbx];simp
     clear hbx;go_wp2;go_ret;exact⟨rfl,HB.out⟩
    ·have hbb:(b0 == (s.size:Int))=false:=beq_eq_false_iff_ne.2 hbx
     have E:l.getD k 0=sn:=snap_up.symm.trans HSN.out;have HE:=hide E;clear E hbx;go_wp2_with fail;go_loop [10] (fun i=>∃j:Nat,j≤k∧i=.int .i64 j) (fun i=>k+1 - (intOf i).toNat)
     case atStart=>exact⟨0,Nat.zero_le _,rfl⟩
     case round =>
      obtain⟨j,hjk,rfl⟩:=hrel;have hjl2:j<l.length:=by omega
      have c:=HCELL.out j hjl2;by_cases hlt:j<k
      ·have hy:=HCUT.out.2.1 j hlt
       generalize l.getD j 0=y at c hy;go_wp2;go_round
       case rel=>exact⟨j+1,by omega,by go_num⟩
       case measure=>simp[intOf];omega
      ·obtain rfl:j=k:=by omega
       have hy:=HCUT.out.2.2 j (Nat.le_refl _) hjl2;rw[HE.out]at c hy;go_wp2;go_ret;exact⟨rfl,HB.out⟩
theorem ref19_any (s:ByteArray)(off:Int)(up:Bool)(w:World)(hs:s.size≤1000000)(hT:Lib.Utf8Tabs 1 2 w)(n k:Nat)(hend:Dec.Ends s n)(hc:Cut (bnd s n) (min (max off 0) ((s.size:Nat):Int)) k) :
 Calls Tryz.prog 58 #[.string s,.int .i64 off,.bool up] w fun e w'=>e=.returned (.int .i64 (snapL (bnd s n) (min (max off 0) ((s.size:Nat):Int)) up k))∧Below w.heap.size w w':=by
 by_cases h1:off<0
 ·have e:min (max off 0) ((s.size:Nat):Int)=0:=by omega
  rw[e]at hc ⊢;exact ref19_low s off up w hs hT n k hend h1 hc
 ·by_cases h2:(s.size:Int)<off
  ·have e:min (max off 0) ((s.size:Nat):Int)=(s.size:Int):=by omega
   rw[e]at hc ⊢;exact ref19_high s off up w hs hT n k hend h2 hc
  ·have e:min (max off 0) ((s.size:Nat):Int)=off:=by omega
   rw[e]at hc ⊢;exact ref19_mid s off up w hs hT n k hend (by omega) (by omega) hc
end Go.Proofs.YtnakejhohdbfdaaGreatDoor.Cls

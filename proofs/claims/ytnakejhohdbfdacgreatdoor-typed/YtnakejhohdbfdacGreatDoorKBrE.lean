import Derived.Test.YtnakejhohdbfdacGreatDoorKMl
import Derived.Test.YtnakejhohdbfdacGreatDoorKPrV
import Derived.Maps.OwnOps
import Derived.WalkMore
import Derived.Deep.LoopGhost
namespace Go.Proofs.YtnakejhohdbfdacGreatDoor
open Go.RowKit Lev Go.Maps Go.Sort
theorem sortsA (m:Nat):AnyZI.SortsIn Tryz.prog Tryz.sortedA_ren Fence.wide m :=
 ⟨fun blk off cap ss W hH hblk hsz=>callsIn_wide.2 (AnyM.slices_Sort_int Tryz.sortA blk off cap ss W hH hblk hsz),
  fun p cap W=>callsIn_wide.2 (AnyM.slices_Sort_int_none Tryz.sortA p cap W)⟩
theorem keys_any (mb:Option Nat)(w:World):Calls Tryz.prog 186 #[.map mb] w fun e w'=>e=.returned (.func (.func 216) #[] #[.pointer (some ⟨w.heap.size,0,none⟩)])∧w'=w.alloc (.cells #[.map mb] 258) :=
 callsIn_wide.1 (AnyZI.keys_in Tryz.keysA Fence.wide 5 trivial rfl mb w)
theorem sorted_any (b nn bm:Nat)(D:DataW Unit)(out:List (Nat × Nat))(w:World)(hown:w.ownsMap Tryz.prog 3 (plainElem Tryz.prog 3) b nn D)(hm:w.cell? ⟨bm,0,none⟩=some (.map (some b)))(ho:mapO D out)(hs:out.Pairwise (fun a b=>a.1<b.1))(hl:out.length≤1000000) :
 Calls Tryz.prog 185 #[.func (.func 216) #[] #[.pointer (some ⟨bm,0,none⟩)]] w fun e w'=>∃v,e=.returned v∧w'.ownsRow w.heap.size 3 1 v out.length (intsN (out.map (·.1)))∧Fr [] w w':=by
 have hsz:Maps.size D=out.length:=(ho.keys (hown.canon law3) hs (List.Perm.refl _)).2.2;have hseq:SeqGives Fence.wide 2 Tryz.prog 216 #[.pointer (some ⟨bm,0,none⟩)] encZ (fun ss=>ss.Perm (intKeys D)) (Maps.size D) w :=
  AnyZI.keys_gives (ρ:=Tryz.keysA_ren) { Tryz.keysA with } Fence.wide _ trivial rfl (by omega) bm b nn D w (World.block_lt_of_cell? _ _ hm) hm hown
 have cS:=AnyZI.sorted_in Tryz.sortedA Fence.wide 5 trivial trivial trivial trivial rfl (by omega) (sortsA _) (enters_of Tryz.func215 (by kernel_rfl) rfl) 216 #[.pointer (some ⟨bm,0,none⟩)] trivial (enters_of Tryz.func216 (by kernel_rfl) rfl) _ (Maps.size D) (by rw[hsz];unfold maxLen;omega) (by rw[hsz];omega) w hseq;refine(callsIn_wide.1 cS).mono ?_;rintro e w' ⟨v,ss,rfl,hp,hrow,_,hb⟩;obtain⟨k1,k2,_⟩:=ho.keys (hown.canon law3) hs hp;refine⟨v,rfl,?_,Fr.of_below hb⟩;rw[k1,k2]at hrow;rw[show intsN (out.map (·.1))=(out.map (fun p=>(p.1:Int))).map encZ by simp[intsN,List.map_map,Function.comp_def]];exact hrow
theorem any_hit {f:Nat→Bool}{a:Nat}:∀ {d j:Nat},j<d→f (a+j)=true→anyTo f a d=true
 | 0,j,h,_=>by omega
 | d+1,j,h,hf=>by
   rw[anyTo];by_cases e:j=d
   ·subst e;rw[hf];simp
   ·rw[any_hit (d:=d) (j:=j) (by omega) hf];rfl
theorem ahead01 {s:Sq}{C:List Int}(hb:s.bef=0∨s.bef=1):∀i,aheadTo s C i=0∨aheadTo s C i=1
 | 0=>by rw[aheadTo];rcases hb with e | e <;> rw[e] <;> decide
 | i+1=>by
   rw[aheadTo];have:=side_cases (cl s.I C i);split
   ·omega
   ·exact ahead01 hb i
set_option maxRecDepth 100000 in
set_option maxHeartbeats 8000000 in
theorem brk_any (q:UH)(C L:List Int)(S Q cQ:Nat)(s:Sq)(lv:Int)(w:World)(hu:US w q C L)(hs:SS w q S Q cQ s lv)(h0:0<s.I.length)(hl:0≤lv)(ho:s.own=way lv)(hb:s.bef=0∨s.bef=1) :
 Calls Tryz.prog 140 #[.pointer (some ⟨S,0,none⟩)] w fun e w'=>e=.returned (.tuple #[])∧US w' q (brackets q.R q.K s C) L∧Fr [q.U] w w':=by
 have hUw:q.U<w.heap.size:=World.block_lt_of_cell? _ _ (hu.r _ (hs.lt 0 h0));have hSw:S<w.heap.size:=World.block_lt_of_cell? _ _ hs.c0;have hQw:Q<w.heap.size:=World.block_lt_of_cell? _ _ (hs.p 0 h0);have HU:=hid hu;have HS:=hid hs;have H135:=hid (pairs_any q C L S Q cQ s lv w hu hs);have sm:=hs.sm;have cp:=hs.cp;have HPO:=hid (pairs_ok q.R s.I C);have HPV:=hid (prs_inv q.R s.I C s.I.length);have HBR:=hid (show brackets q.R q.K s C=brTo q.K s (pairsTo q.R s.I C s.I.length).out (pairsTo q.R s.I C s.I.length).out.length C from rfl);generalize brackets q.R q.K s C=Z at *;generalize (pairsTo q.R s.I C s.I.length)=pp at *;obtain⟨m,hm⟩:∃m,m=s.I.length:=⟨_,rfl⟩;have HM:=hid hm;rw[←hm]at sm cp;have HO:=hid ho;have HB:=hid hb;obtain⟨n,hn⟩:∃n,n=pp.out.length:=⟨_,rfl⟩;have HN:=hid hn;have hnb:n≤1000000:=by have h5:=HPV.out.len;rw[←hm]at h5;omega
 clear hu hs hm ho hb hn;go_enter Tryz.func140,Tryz.ntmps140;go_wp2;go_step3;go_wp2_with fail;refine H135.out.mono ?_;rintro e w1 ⟨rfl,⟨D,hown,hmo⟩,hf1⟩;have HF1:=hid hf1;have HO1:=hid hown;have HMO:=hid hmo;have hsz1:=hf1.size;have hml:=hown.lt;clear hown hmo hf1 H135;go_wp2_with fail;go_step3;go_wp2_with (first | (go_at_call 186;refine(keys_any _ _).mono ?_;rintro e w' ⟨rfl,rfl⟩));have hkc:(w1.alloc (.cells #[.map (some w.heap.size)] 258)).cell? ⟨w1.heap.size,0,none⟩=some (.map (some w.heap.size)):=by rw[World.cell?_alloc_at (hn:=rfl)];rfl
 refine(sorted_any w.heap.size _ w1.heap.size D pp.out _ (HO1.out.alloc _) hkc HMO.out HPV.out.so (by rw[←HN.out];exact hnb)).mono ?_;rintro e w2 ⟨v,rfl,hrow,hf2⟩;obtain⟨a1,c1,hv1⟩:=owns_slice hrow;rw[←HN.out]at hv1 hrow;rw[World.size_alloc]at hrow;subst hv1;have HR2:=hid hrow;have hf2':Fr [] w1 w2:=((Fr.refl [] w1).alloc _).trans hf2;have HF2:=hid (HF1.out.trans hf2');have HO2:=hid (map3_fr HO1.out hf2' List.not_mem_nil);have HU2:=hid (HU.out.fr HF2.out List.not_mem_nil);have HS2:=hid (HS.out.fr HF2.out List.not_mem_nil List.not_mem_nil);have hsz2:=hf2'.size;clear hkc hrow hf2 hf2';go_wp2;go_loopg [15] n (fun g a wr=>∃(k:Nat),a=.int .i64 k∧k≤n∧g=n - k∧Hid (US wr q (brTo q.K s pp.out k C) L)∧Hid (Fr [q.U] w2 wr))
 case atStart=>exact⟨0,rfl,Nat.zero_le _,rfl,HU2,hid (Fr.refl _ _)⟩
 case round =>
  obtain⟨k,rfl,hk,rfl,HUW,HF⟩:=hrel;by_cases hlt:k<n
  ·have hkr:k<pp.out.length:=by rw[←HN.out];exact hlt
   obtain⟨o,c,hoc⟩:∃o c,(pp.out[k]?).getD (0,0)=(o,c):=⟨_,_,rfl⟩;obtain⟨h1,h2⟩:=HPO.out k hkr;rw[hoc]at h1 h2;dsimp only at h1 h2;rw[←HM.out]at h2;have hmem:(o,c)∈pp.out:=by rw[←hoc,List.getElem?_eq_getElem hkr];exact List.getElem_mem hkr
   obtain⟨gk,ck,hsh⟩:=owns_shape (by omega) HR2.out;cases hsh;have hgk:=owns_at HR2.out;have hgU:gk ∉ [q.U]:=by simp;omega
   have e1:wr.cell? ⟨gk,k,none⟩=some (.int .i64 (o:Nat)):=by
    refine HF.out.cell ?_ hgU;rw[owns_rowN HR2.out (by rw[List.length_map];exact HN.out.symm) k hlt]
    congr 3
    rw[nix,List.getElem?_map,List.getElem?_eq_getElem hkr];rw[List.getElem?_eq_getElem hkr]at hoc;simp at hoc;simp[hoc]
   have HOW:=hid (map3_fr HO2.out HF.out (by simp;omega));have HAT:=hid (HMO.out.h _ hmem).2;have HSW:=hid (HS2.out.fr HF.out (fun hm=>HS.out.ne.1 (List.mem_singleton.1 hm)) (fun hm=>HS.out.ne.2 (List.mem_singleton.1 hm)));have c0:=HSW.out.c0;rw[←HM.out]at c0;have HST:=hid (show brTo q.K s pp.out (k+1) C=brStep q.K s (o,c) (brTo q.K s pp.out k C) by rw[brTo,hoc]);generalize brTo q.K s pp.out k C=C1 at *;obtain⟨d,hd⟩:∃d,c - (o+1)=d:=⟨_,rfl⟩;have HD:=hid hd;have hdm:o+1+d=c:=by omega
   have hkI:(k:Int)<(n:Int):=by omega
   have hI1:((o:Int)+1)≤(c:Int):=by omega
   have hI2:(c:Int)≤(cQ:Int):=by omega
   have hI3:(c:Int)≤(m:Int):=by omega
   have hca:¬cQ=o+1:=by omega
   have hwl:=HF.out.size;have H140:=hid (fun v X (hf:Fr [] wr X)=>fn97_any q C1 L S Q cQ s lv o c v X (HUW.out.fr hf List.not_mem_nil) (HSW.out.fr hf List.not_mem_nil List.not_mem_nil) (by rw[←HM.out];omega) (by rw[←HM.out];omega));have H139:=hid (fun X (hf:Fr [] wr X)=>fn68_any q S Q cQ s lv X (HSW.out.fr hf List.not_mem_nil List.not_mem_nil) hl);have H141:=hid (fun X (hf:Fr [] wr X)=>ahd_any q C1 L S Q cQ s lv o X (HUW.out.fr hf List.not_mem_nil) (HSW.out.fr hf List.not_mem_nil List.not_mem_nil) (by rw[←HM.out];omega) HB.out);have HA01:=hid (ahead01 (s:=s) (C:=C1) HB.out o);have HBS:=hid (show brStep q.K s (o,c) C1=if anyTo (fun k=>side (cl s.I C1 k) == way lv) (o+1) d then become q.K s.I c (way lv) (become q.K s.I o (way lv) C1)else if anyTo (fun k=>decide (0≤side (cl s.I C1 k))) (o+1) d then become q.K s.I c (aheadTo s C1 o) (become q.K s.I o (aheadTo s C1 o) C1)else C1 by rw[brStep,HO.out,HD.out]);generalize aheadTo s C1 o=ya at *;clear hkr hoc hmem hgU hd;go_wp2_with (first | (at_lookup;refine wpList_lookup_own_int _ rfl _ _ 258 rfl 3 3 .i64 law3 Tryz.underlying258 Tryz.underlying3 (zero3 _) w.heap.size _ D rfl HOW.out _ (kN o) rfl (keyOf_int_mk Tryz.underlying3 (WalkArith.wf_i64 (by omega))) ?_;intro c2 hat hwc;obtain rfl:c2=(c:Int):=(by have h5:=hat.symm.trans (HAT.out _);simpa using h5);clear hat hwc));rw[HD.out];clear e1 c0 HOW HAT;go_loopg [31,6] d (fun g jj x wx=>∃(t:Nat) (xb:Int),jj=.int .i64 t∧t≤d∧g=d - t∧x=.int .i64 xb∧Hid (xb=if anyTo (fun k=>decide (0≤side (cl s.I C1 k))) (o+1) t then ya else -1)∧Hid (anyTo (fun k=>side (cl s.I C1 k) == way lv) (o+1) t=false)∧Hid (Fr [] wr wx))
   case atStart=>exact⟨0,-1,rfl,Nat.zero_le _,rfl,rfl,hid rfl,hid rfl,hid (Fr.refl _ _)⟩
   case round =>
    obtain⟨t,xb,rfl,htd,rfl,rfl,HXB,HAO,HFX⟩:=hrel;by_cases htl:t<d
    ·have hts:o+1+t<s.I.length:=by rw[←HM.out];omega
     obtain⟨i,hi⟩:∃i,i=nix s.I (o+1+t):=⟨_,rfl⟩;obtain⟨cc,hcc⟩:∃cc,cc=cl s.I C1 (o+1+t):=⟨_,rfl⟩;obtain⟨z,hz⟩:∃z,z=side cc:=⟨_,rfl⟩;have p1:wr.cell? ⟨Q,o+1+t,none⟩=some (.pointer (some ⟨q.U,i * 4,none⟩)):=by rw[hi];exact(HSW.out.fr HFX.out List.not_mem_nil List.not_mem_nil).p _ hts
     have p2:wr.cell? ⟨q.U,i * 4+2,none⟩=some (.int .i64 cc):=by rw[hi,hcc];exact(HUW.out.fr HFX.out List.not_mem_nil).c _ (HSW.out.lt _ hts)
     have H138:=hid (fn67_any cc);rw[←hz]at H138;have HSC:=hid (side_cases cc);rw[←hz]at HSC;have HA1:=hid (show anyTo (fun k=>side (cl s.I C1 k) == way lv) (o+1) (t+1)=(anyTo (fun k=>side (cl s.I C1 k) == way lv) (o+1) t || (z == way lv)) by rw[anyTo,hz,hcc]);have HA2:=hid (show anyTo (fun k=>decide (0≤side (cl s.I C1 k))) (o+1) (t+1)=(anyTo (fun k=>decide (0≤side (cl s.I C1 k))) (o+1) t || decide (0≤z)) by rw[anyTo,hz,hcc]);have HHIT:=hid (fun(h:z=way lv)=>any_hit (f:=fun k=>side (cl s.I C1 k) == way lv) (a:=o+1) (d:=d) (j:=t) htl (by rw[←hcc,←hz];simp[h]));clear hi hcc hz;have htI:(t:Int)<(d:Int):=by omega
     have HW01:=hid (way_01 lv);clear hts;by_cases ez:z=way lv
     ·have HZ2:=hid (show brTo q.K s pp.out (k+1) C=become q.K s.I c (way lv) (become q.K s.I o (way lv) C1) by rw[HST.out,HBS.out,if_pos (HHIT.out ez)])
      generalize way lv=yo at *;subst ez;go_wp2_with (first | (go_at_call 187;refine(H138.out _).mono ?_;rintro e w' ⟨rfl,rfl⟩) | (go_at_call 188;refine(H139.out _ ?_).mono ?_;(first | exact HFX.out | exact HFX.out.drewN _ | exact(HFX.out.drewN _).drewN _);rintro e w' ⟨rfl,mm,rfl⟩) | (go_at_call 189;refine(H140.out _ _ ?_).mono ?_;(first | exact HFX.out | exact HFX.out.drewN _ | exact(HFX.out.drewN _).drewN _);rintro e w' ⟨rfl,hu',hf'⟩;have HU3:=hid hu';have HF3:=hid hf';clear hu' hf'));go_roundg (n - (k+1))
      case measure=>omega
      case rel=>exact⟨k+1,by go_num,by omega,rfl,hid (by rw[HZ2.out];exact HU3.out),hid ((HF.out.trans (HFX.out.mono (fun k hk=>absurd hk List.not_mem_nil))).trans HF3.out.of_drewN)⟩
     ·have ezb:(z == way lv)=false:=by simp[ez]
      have HAO2:=hid (show anyTo (fun k=>side (cl s.I C1 k) == way lv) (o+1) (t+1)=false by rw[HA1.out,HAO.out,ezb];rfl);by_cases en:z=-1
      ·have HX2:=hid (show xb=if anyTo (fun k=>decide (0≤side (cl s.I C1 k))) (o+1) (t+1)then ya else -1 by rw[HA2.out,en];simp;exact HXB.out)
       generalize way lv=yo at *;subst en;clear HHIT HA1 HA2;go_wp2_with (first | (go_at_call 187;refine(H138.out _).mono ?_;rintro e w' ⟨rfl,rfl⟩) | (go_at_call 188;refine(H139.out _ ?_).mono ?_;(first | exact HFX.out | exact HFX.out.drewN _ | exact(HFX.out.drewN _).drewN _);rintro e w' ⟨rfl,mm,rfl⟩));go_roundg (d - (t+1))
       case measure=>omega
       case rel=>exact⟨t+1,xb,by go_num,by omega,rfl,rfl,HX2,HAO2,hid (HFX.out.drewN _)⟩
      ·have hz0:0≤z:=by have:=HSC.out;omega
       have enb:(z == -1)=false:=by simp[en]
       have HX2:=hid (show ya=if anyTo (fun k=>decide (0≤side (cl s.I C1 k))) (o+1) (t+1)then ya else -1 by rw[HA2.out,decide_eq_true hz0];simp);generalize way lv=yo at *;clear HHIT HA1 HA2;go_wp2_with (first | (go_at_call 187;refine(H138.out _).mono ?_;rintro e w' ⟨rfl,rfl⟩) | (go_at_call 188;refine(H139.out _ ?_).mono ?_;(first | exact HFX.out | exact HFX.out.drewN _ | exact(HFX.out.drewN _).drewN _);rintro e w' ⟨rfl,mm,rfl⟩) | (go_at_call 190;refine(H141.out _ ?_).mono ?_;(first | exact HFX.out | exact HFX.out.drewN _ | exact(HFX.out.drewN _).drewN _);rintro e w' ⟨rfl,hf'⟩;have HF3:=hid hf';clear hf'));go_roundg (d - (t+1))
       case measure=>omega
       case rel=>exact⟨t+1,ya,by go_num,by omega,rfl,rfl,HX2,HAO2,hid (HFX.out.trans HF3.out.of_drewN)⟩
    ·have hte:t=d:=by omega
     have htI:¬(t:Int)<(d:Int):=by omega
     have HAO2:=hid (show anyTo (fun k=>side (cl s.I C1 k) == way lv) (o+1) d=false by rw[←hte];exact HAO.out);have HXB2:=hid (show xb=if anyTo (fun k=>decide (0≤side (cl s.I C1 k))) (o+1) d then ya else -1 by rw[←hte];exact HXB.out);clear hte HAO HXB;cases hst:anyTo (fun k=>decide (0≤side (cl s.I C1 k))) (o+1) d with
     | true =>
       have hxb:xb=ya:=by rw[HXB2.out,hst];rfl
       have HZ2:=hid (show brTo q.K s pp.out (k+1) C=become q.K s.I c ya (become q.K s.I o ya C1) by rw[HST.out,HBS.out,if_neg (by rw[HAO2.out];exact Bool.false_ne_true),if_pos hst]);subst hxb;have hyn:(xb == -1)=false:=by have:=HA01.out;simp;omega
       have hyn2:¬xb=-1:=by have:=HA01.out;omega
       clear hst HXB2;go_wp2_with (first | (go_at_call 189;refine(H140.out _ _ ?_).mono ?_;exact HFX.out;rintro e w' ⟨rfl,hu',hf'⟩;have HU3:=hid hu';have HF3:=hid hf';clear hu' hf'));go_roundg (n - (k+1))
       case measure=>omega
       case rel=>exact⟨k+1,by go_num,by omega,rfl,hid (by rw[HZ2.out];exact HU3.out),hid ((HF.out.trans (HFX.out.mono (fun k hk=>absurd hk List.not_mem_nil))).trans HF3.out)⟩
     | false =>
       have hxb:xb=-1:=by rw[HXB2.out,hst];rfl
       have HZ2:=hid (show brTo q.K s pp.out (k+1) C=C1 by rw[HST.out,HBS.out,if_neg (by rw[HAO2.out];exact Bool.false_ne_true),if_neg (by rw[hst];exact Bool.false_ne_true)]);subst hxb;clear hst HXB2;go_wp2;go_roundg (n - (k+1))
       case measure=>omega
       case rel=>exact⟨k+1,by go_num,by omega,rfl,hid (by rw[HZ2.out];exact HUW.out.fr HFX.out List.not_mem_nil),hid (HF.out.trans (HFX.out.mono (fun k hk=>absurd hk List.not_mem_nil)))⟩
  ·have hke:k=n:=by omega
   have HN2:=hid (show US wr q Z L by rw[HBR.out,←HN.out,←hke];exact HUW.out);have hkI:¬(k:Int)<(n:Int):=by omega
   clear hke;go_wp2;go_end0;exact⟨rfl,HN2.out,(HF2.out.mono (fun k hk=>absurd hk List.not_mem_nil)).trans HF.out⟩
end Go.Proofs.YtnakejhohdbfdacGreatDoor

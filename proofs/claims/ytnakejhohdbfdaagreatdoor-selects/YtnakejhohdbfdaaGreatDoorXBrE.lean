import Derived.Test.YtnakejhohdbfdaaGreatDoorXMl
import Derived.Test.YtnakejhohdbfdaaGreatDoorXPrV
import Derived.Maps.OwnOps
import Derived.WalkMore
import Derived.Deep.LoopGhost
import Derived.Test.YtnakejhohdbfdaaGreatDoorXMh
import Derived.Test.YtnakejhohdbfdaaGreatDoorXRsG
import Derived.Test.YtnakejhohdbfdaaGreatDoorXMb
import Derived.Lib.RuneCountTail
namespace Go.Proofs.YtnakejhohdbfdaaGreatDoor
open Go.RowKit Lev Go.Maps Go.Sort
theorem sortsA (m:Nat):AnyZI.SortsIn Tryz.prog Tryz.sortedA_ren Fence.wide m :=
 ⟨fun blk off cap ss W hH hblk hsz=>callsIn_wide.2 (AnyM.slices_Sort_int Tryz.sortA blk off cap ss W hH hblk hsz),
  fun p cap W=>callsIn_wide.2 (AnyM.slices_Sort_int_none Tryz.sortA p cap W)⟩
theorem keys_any (mb:Option Nat)(w:World):Calls Tryz.prog 148 #[.map mb] w fun e w'=>e=.returned (.func (.func 196) #[] #[.pointer (some ⟨w.heap.size,0,none⟩)])∧w'=w.alloc (.cells #[.map mb] 135) :=
 callsIn_wide.1 (AnyZI.keys_in Tryz.keysA Fence.wide 5 trivial rfl mb w)
theorem sorted_any (b nn bm:Nat)(D:DataW Unit)(out:List (Nat × Nat))(w:World)(hown:w.ownsMap Tryz.prog 3 (plainElem Tryz.prog 3) b nn D)(hm:w.cell? ⟨bm,0,none⟩=some (.map (some b)))(ho:mapO D out)(hs:out.Pairwise (fun a b=>a.1<b.1))(hl:out.length≤1000000) :
 Calls Tryz.prog 147 #[.func (.func 196) #[] #[.pointer (some ⟨bm,0,none⟩)]] w fun e w'=>∃v,e=.returned v∧w'.ownsRow w.heap.size 3 1 v out.length (intsN (out.map (·.1)))∧Fr [] w w':=by
 have hsz:Maps.size D=out.length:=(ho.keys (hown.canon law3) hs (List.Perm.refl _)).2.2;have hseq:SeqGives Fence.wide 2 Tryz.prog 196 #[.pointer (some ⟨bm,0,none⟩)] encZ (fun ss=>ss.Perm (intKeys D)) (Maps.size D) w :=
  AnyZI.keys_gives (ρ:=Tryz.keysA_ren) { Tryz.keysA with } Fence.wide _ trivial rfl (by omega) bm b nn D w (World.block_lt_of_cell? _ _ hm) hm hown
 have cS:=AnyZI.sorted_in Tryz.sortedA Fence.wide 5 trivial trivial trivial trivial rfl (by omega) (sortsA _) (enters_of Tryz.func195 (by kernel_rfl) rfl) 196 #[.pointer (some ⟨bm,0,none⟩)] trivial (enters_of Tryz.func196 (by kernel_rfl) rfl) _ (Maps.size D) (by rw[hsz];unfold maxLen;omega) (by rw[hsz];omega) w hseq;refine(callsIn_wide.1 cS).mono ?_;rintro e w' ⟨v,ss,rfl,hp,hrow,_,hb⟩;obtain⟨k1,k2,_⟩:=ho.keys (hown.canon law3) hs hp;refine⟨v,rfl,?_,Fr.of_below hb⟩;rw[k1,k2]at hrow;rw[show intsN (out.map (·.1))=(out.map (fun p=>(p.1:Int))).map encZ by simp[intsN,List.map_map,Function.comp_def]];exact hrow
theorem any_hit {f:Nat→Bool}{a:Nat}:∀ {d j:Nat},j<d→f (a+j)=true→anyTo f a d=true
 | 0,j,h,_=>by omega
 | d+1,j,h,hf=>by
   rw[anyTo];by_cases e:j=d
   ·subst e;rw[hf];simp
   ·rw[any_hit (d:=d) (j:=j) (by omega) hf];rfl
theorem ahead01 {s:Sq}{C:List Int}(hb:s.bef=0∨s.bef=1):∀i,aheadTo s C i=0∨aheadTo s C i=1
 | 0=>by rw[aheadTo];rcases hb with e | e <;> rw[e] <;> decide
 | i+1=>by
   rw[aheadTo];have:=side_cases (cl s.I C i);split
   ·omega
   ·exact ahead01 hb i
set_option maxRecDepth 100000 in
set_option maxHeartbeats 8000000 in
theorem brk_any (q:UH)(C L:List Int)(S Q cQ:Nat)(s:Sq)(lv:Int)(w:World)(hu:US w q C L)(hs:SS w q S Q cQ s lv)(h0:0<s.I.length)(hl:0≤lv)(ho:s.own=way lv)(hb:s.bef=0∨s.bef=1) :
 Calls Tryz.prog 77 #[.pointer (some ⟨S,0,none⟩)] w fun e w'=>e=.returned (.tuple #[])∧US w' q (brackets q.R q.K s C) L∧Fr [q.U] w w':=by
 have hUw:q.U<w.heap.size:=World.block_lt_of_cell? _ _ (hu.r _ (hs.lt 0 h0));have hSw:S<w.heap.size:=World.block_lt_of_cell? _ _ hs.c0;have hQw:Q<w.heap.size:=World.block_lt_of_cell? _ _ (hs.p 0 h0);have HU:=hid hu;have HS:=hid hs;have H135:=hid (pairs_any q C L S Q cQ s lv w hu hs);have sm:=hs.sm;have cp:=hs.cp;have HPO:=hid (pairs_ok q.R s.I C);have HPV:=hid (prs_inv q.R s.I C s.I.length);have HBR:=hid (show brackets q.R q.K s C=brTo q.K s (pairsTo q.R s.I C s.I.length).out (pairsTo q.R s.I C s.I.length).out.length C from rfl);generalize brackets q.R q.K s C=Z at *;generalize (pairsTo q.R s.I C s.I.length)=pp at *;obtain⟨m,hm⟩:∃m,m=s.I.length:=⟨_,rfl⟩;have HM:=hid hm;rw[←hm]at sm cp;have HO:=hid ho;have HB:=hid hb;obtain⟨n,hn⟩:∃n,n=pp.out.length:=⟨_,rfl⟩;have HN:=hid hn;have hnb:n≤1000000:=by have h5:=HPV.out.len;rw[←hm]at h5;omega
 clear hu hs hm ho hb hn;go_enter Tryz.func77,Tryz.ntmps77;go_wp2;go_step3;go_wp2_with fail;refine H135.out.mono ?_;rintro e w1 ⟨rfl,⟨D,hown,hmo⟩,hf1⟩;have HF1:=hid hf1;have HO1:=hid hown;have HMO:=hid hmo;have hsz1:=hf1.size;have hml:=hown.lt;clear hown hmo hf1 H135;go_wp2_with fail;go_step3;go_wp2_with (first | (go_at_call 148;refine(keys_any _ _).mono ?_;rintro e w' ⟨rfl,rfl⟩));have hkc:(w1.alloc (.cells #[.map (some w.heap.size)] 135)).cell? ⟨w1.heap.size,0,none⟩=some (.map (some w.heap.size)):=by rw[World.cell?_alloc_at (hn:=rfl)];rfl
 refine(sorted_any w.heap.size _ w1.heap.size D pp.out _ (HO1.out.alloc _) hkc HMO.out HPV.out.so (by rw[←HN.out];exact hnb)).mono ?_;rintro e w2 ⟨v,rfl,hrow,hf2⟩;obtain⟨a1,c1,hv1⟩:=owns_slice hrow;rw[←HN.out]at hv1 hrow;rw[World.size_alloc]at hrow;subst hv1;have HR2:=hid hrow;have hf2':Fr [] w1 w2:=((Fr.refl [] w1).alloc _).trans hf2;have HF2:=hid (HF1.out.trans hf2');have HO2:=hid (map3_fr HO1.out hf2' List.not_mem_nil);have HU2:=hid (HU.out.fr HF2.out List.not_mem_nil);have HS2:=hid (HS.out.fr HF2.out List.not_mem_nil List.not_mem_nil);have hsz2:=hf2'.size;clear hkc hrow hf2 hf2';go_wp2;go_loopg [15] n (fun g a wr=>∃(k:Nat),a=.int .i64 k∧k≤n∧g=n - k∧Hid (US wr q (brTo q.K s pp.out k C) L)∧Hid (Fr [q.U] w2 wr))
 case atStart=>exact⟨0,rfl,Nat.zero_le _,rfl,HU2,hid (Fr.refl _ _)⟩
 case round =>
  obtain⟨k,rfl,hk,rfl,HUW,HF⟩:=hrel;by_cases hlt:k<n
  ·have hkr:k<pp.out.length:=by rw[←HN.out];exact hlt
   obtain⟨o,c,hoc⟩:∃o c,(pp.out[k]?).getD (0,0)=(o,c):=⟨_,_,rfl⟩;obtain⟨h1,h2⟩:=HPO.out k hkr;rw[hoc]at h1 h2;dsimp only at h1 h2;rw[←HM.out]at h2;have hmem:(o,c)∈pp.out:=by rw[←hoc,List.getElem?_eq_getElem hkr];exact List.getElem_mem hkr
   obtain⟨gk,ck,hsh⟩:=owns_shape (by omega) HR2.out;cases hsh;have hgk:=owns_at HR2.out;have hgU:gk ∉ [q.U]:=by simp;omega
   have e1:wr.cell? ⟨gk,k,none⟩=some (.int .i64 (o:Nat)):=by
    refine HF.out.cell ?_ hgU;rw[owns_rowN HR2.out (by rw[List.length_map];exact HN.out.symm) k hlt]
    congr 3
    rw[nix,List.getElem?_map,List.getElem?_eq_getElem hkr];rw[List.getElem?_eq_getElem hkr]at hoc;simp at hoc;simp[hoc]
   have HOW:=hid (map3_fr HO2.out HF.out (by simp;omega));have HAT:=hid (HMO.out.h _ hmem).2;have HSW:=hid (HS2.out.fr HF.out (fun hm=>HS.out.ne.1 (List.mem_singleton.1 hm)) (fun hm=>HS.out.ne.2 (List.mem_singleton.1 hm)));have c0:=HSW.out.c0;rw[←HM.out]at c0;have HST:=hid (show brTo q.K s pp.out (k+1) C=brStep q.K s (o,c) (brTo q.K s pp.out k C) by rw[brTo,hoc]);generalize brTo q.K s pp.out k C=C1 at *;obtain⟨d,hd⟩:∃d,c - (o+1)=d:=⟨_,rfl⟩;have HD:=hid hd;have hdm:o+1+d=c:=by omega
   have hkI:(k:Int)<(n:Int):=by omega
   have hI1:((o:Int)+1)≤(c:Int):=by omega
   have hI2:(c:Int)≤(cQ:Int):=by omega
   have hI3:(c:Int)≤(m:Int):=by omega
   have hca:¬cQ=o+1:=by omega
   have hwl:=HF.out.size;have H140:=hid (fun v X (hf:Fr [] wr X)=>fn97_any q C1 L S Q cQ s lv o c v X (HUW.out.fr hf List.not_mem_nil) (HSW.out.fr hf List.not_mem_nil List.not_mem_nil) (by rw[←HM.out];omega) (by rw[←HM.out];omega));have H139:=hid (fun X (hf:Fr [] wr X)=>fn68_any q S Q cQ s lv X (HSW.out.fr hf List.not_mem_nil List.not_mem_nil) hl);have H141:=hid (fun X (hf:Fr [] wr X)=>ahd_any q C1 L S Q cQ s lv o X (HUW.out.fr hf List.not_mem_nil) (HSW.out.fr hf List.not_mem_nil List.not_mem_nil) (by rw[←HM.out];omega) HB.out);have HA01:=hid (ahead01 (s:=s) (C:=C1) HB.out o);have HBS:=hid (show brStep q.K s (o,c) C1=if anyTo (fun k=>side (cl s.I C1 k) == way lv) (o+1) d then become q.K s.I c (way lv) (become q.K s.I o (way lv) C1)else if anyTo (fun k=>decide (0≤side (cl s.I C1 k))) (o+1) d then become q.K s.I c (aheadTo s C1 o) (become q.K s.I o (aheadTo s C1 o) C1)else C1 by rw[brStep,HO.out,HD.out]);generalize aheadTo s C1 o=ya at *;clear hkr hoc hmem hgU hd;go_wp2_with (first | (at_lookup;refine wpList_lookup_own_int _ rfl _ _ 135 rfl 3 3 .i64 law3 Tryz.underlying135 Tryz.underlying3 (zero3 _) w.heap.size _ D rfl HOW.out _ (kN o) rfl (keyOf_int_mk Tryz.underlying3 (WalkArith.wf_i64 (by omega))) ?_;intro c2 hat hwc;obtain rfl:c2=(c:Int):=(by have h5:=hat.symm.trans (HAT.out _);simpa using h5);clear hat hwc));rw[HD.out];clear e1 c0 HOW HAT;go_loopg [31,6] d (fun g jj x wx=>∃(t:Nat) (xb:Int),jj=.int .i64 t∧t≤d∧g=d - t∧x=.int .i64 xb∧Hid (xb=if anyTo (fun k=>decide (0≤side (cl s.I C1 k))) (o+1) t then ya else -1)∧Hid (anyTo (fun k=>side (cl s.I C1 k) == way lv) (o+1) t=false)∧Hid (Fr [] wr wx))
   case atStart=>exact⟨0,-1,rfl,Nat.zero_le _,rfl,rfl,hid rfl,hid rfl,hid (Fr.refl _ _)⟩
   case round =>
    obtain⟨t,xb,rfl,htd,rfl,rfl,HXB,HAO,HFX⟩:=hrel;by_cases htl:t<d
    ·have hts:o+1+t<s.I.length:=by rw[←HM.out];omega
     obtain⟨i,hi⟩:∃i,i=nix s.I (o+1+t):=⟨_,rfl⟩;obtain⟨cc,hcc⟩:∃cc,cc=cl s.I C1 (o+1+t):=⟨_,rfl⟩;obtain⟨z,hz⟩:∃z,z=side cc:=⟨_,rfl⟩;have p1:wr.cell? ⟨Q,o+1+t,none⟩=some (.pointer (some ⟨q.U,i * 4,none⟩)):=by rw[hi];exact(HSW.out.fr HFX.out List.not_mem_nil List.not_mem_nil).p _ hts
     have p2:wr.cell? ⟨q.U,i * 4+2,none⟩=some (.int .i64 cc):=by rw[hi,hcc];exact(HUW.out.fr HFX.out List.not_mem_nil).c _ (HSW.out.lt _ hts)
     have H138:=hid (fn67_any cc);rw[←hz]at H138;have HSC:=hid (side_cases cc);rw[←hz]at HSC;have HA1:=hid (show anyTo (fun k=>side (cl s.I C1 k) == way lv) (o+1) (t+1)=(anyTo (fun k=>side (cl s.I C1 k) == way lv) (o+1) t || (z == way lv)) by rw[anyTo,hz,hcc]);have HA2:=hid (show anyTo (fun k=>decide (0≤side (cl s.I C1 k))) (o+1) (t+1)=(anyTo (fun k=>decide (0≤side (cl s.I C1 k))) (o+1) t || decide (0≤z)) by rw[anyTo,hz,hcc]);have HHIT:=hid (fun(h:z=way lv)=>any_hit (f:=fun k=>side (cl s.I C1 k) == way lv) (a:=o+1) (d:=d) (j:=t) htl (by rw[←hcc,←hz];simp[h]));clear hi hcc hz;have htI:(t:Int)<(d:Int):=by omega
     have HW01:=hid (way_01 lv);clear hts;by_cases ez:z=way lv
     ·have HZ2:=hid (show brTo q.K s pp.out (k+1) C=become q.K s.I c (way lv) (become q.K s.I o (way lv) C1) by rw[HST.out,HBS.out,if_pos (HHIT.out ez)])
      generalize way lv=yo at *;subst ez;go_wp2_with (first | (go_at_call 149;refine(H138.out _).mono ?_;rintro e w' ⟨rfl,rfl⟩) | (go_at_call 150;refine(H139.out _ ?_).mono ?_;(first | exact HFX.out | exact HFX.out.drewN _ | exact(HFX.out.drewN _).drewN _);rintro e w' ⟨rfl,mm,rfl⟩) | (go_at_call 151;refine(H140.out _ _ ?_).mono ?_;(first | exact HFX.out | exact HFX.out.drewN _ | exact(HFX.out.drewN _).drewN _);rintro e w' ⟨rfl,hu',hf'⟩;have HU3:=hid hu';have HF3:=hid hf';clear hu' hf'));go_roundg (n - (k+1))
      case measure=>omega
      case rel=>exact⟨k+1,by go_num,by omega,rfl,hid (by rw[HZ2.out];exact HU3.out),hid ((HF.out.trans (HFX.out.mono (fun k hk=>absurd hk List.not_mem_nil))).trans HF3.out.of_drewN)⟩
     ·have ezb:(z == way lv)=false:=by simp[ez]
      have HAO2:=hid (show anyTo (fun k=>side (cl s.I C1 k) == way lv) (o+1) (t+1)=false by rw[HA1.out,HAO.out,ezb];rfl);by_cases en:z=-1
      ·have HX2:=hid (show xb=if anyTo (fun k=>decide (0≤side (cl s.I C1 k))) (o+1) (t+1)then ya else -1 by rw[HA2.out,en];simp;exact HXB.out)
       generalize way lv=yo at *;subst en;clear HHIT HA1 HA2;go_wp2_with (first | (go_at_call 149;refine(H138.out _).mono ?_;rintro e w' ⟨rfl,rfl⟩) | (go_at_call 150;refine(H139.out _ ?_).mono ?_;(first | exact HFX.out | exact HFX.out.drewN _ | exact(HFX.out.drewN _).drewN _);rintro e w' ⟨rfl,mm,rfl⟩));go_roundg (d - (t+1))
       case measure=>omega
       case rel=>exact⟨t+1,xb,by go_num,by omega,rfl,rfl,HX2,HAO2,hid (HFX.out.drewN _)⟩
      ·have hz0:0≤z:=by have:=HSC.out;omega
       have enb:(z == -1)=false:=by simp[en]
       have HX2:=hid (show ya=if anyTo (fun k=>decide (0≤side (cl s.I C1 k))) (o+1) (t+1)then ya else -1 by rw[HA2.out,decide_eq_true hz0];simp);generalize way lv=yo at *;clear HHIT HA1 HA2;go_wp2_with (first | (go_at_call 149;refine(H138.out _).mono ?_;rintro e w' ⟨rfl,rfl⟩) | (go_at_call 150;refine(H139.out _ ?_).mono ?_;(first | exact HFX.out | exact HFX.out.drewN _ | exact(HFX.out.drewN _).drewN _);rintro e w' ⟨rfl,mm,rfl⟩) | (go_at_call 152;refine(H141.out _ ?_).mono ?_;(first | exact HFX.out | exact HFX.out.drewN _ | exact(HFX.out.drewN _).drewN _);rintro e w' ⟨rfl,hf'⟩;have HF3:=hid hf';clear hf'));go_roundg (d - (t+1))
       case measure=>omega
       case rel=>exact⟨t+1,ya,by go_num,by omega,rfl,rfl,HX2,HAO2,hid (HFX.out.trans HF3.out.of_drewN)⟩
    ·have hte:t=d:=by omega
     have htI:¬(t:Int)<(d:Int):=by omega
     have HAO2:=hid (show anyTo (fun k=>side (cl s.I C1 k) == way lv) (o+1) d=false by rw[←hte];exact HAO.out);have HXB2:=hid (show xb=if anyTo (fun k=>decide (0≤side (cl s.I C1 k))) (o+1) d then ya else -1 by rw[←hte];exact HXB.out);clear hte HAO HXB;cases hst:anyTo (fun k=>decide (0≤side (cl s.I C1 k))) (o+1) d with
     | true =>
       have hxb:xb=ya:=by rw[HXB2.out,hst];rfl
       have HZ2:=hid (show brTo q.K s pp.out (k+1) C=become q.K s.I c ya (become q.K s.I o ya C1) by rw[HST.out,HBS.out,if_neg (by rw[HAO2.out];exact Bool.false_ne_true),if_pos hst]);subst hxb;have hyn:(xb == -1)=false:=by have:=HA01.out;simp;omega
       have hyn2:¬xb=-1:=by have:=HA01.out;omega
       clear hst HXB2;go_wp2_with (first | (go_at_call 151;refine(H140.out _ _ ?_).mono ?_;exact HFX.out;rintro e w' ⟨rfl,hu',hf'⟩;have HU3:=hid hu';have HF3:=hid hf';clear hu' hf'));go_roundg (n - (k+1))
       case measure=>omega
       case rel=>exact⟨k+1,by go_num,by omega,rfl,hid (by rw[HZ2.out];exact HU3.out),hid ((HF.out.trans (HFX.out.mono (fun k hk=>absurd hk List.not_mem_nil))).trans HF3.out)⟩
     | false =>
       have hxb:xb=-1:=by rw[HXB2.out,hst];rfl
       have HZ2:=hid (show brTo q.K s pp.out (k+1) C=C1 by rw[HST.out,HBS.out,if_neg (by rw[HAO2.out];exact Bool.false_ne_true),if_neg (by rw[hst];exact Bool.false_ne_true)]);subst hxb;clear hst HXB2;go_wp2;go_roundg (n - (k+1))
       case measure=>omega
       case rel=>exact⟨k+1,by go_num,by omega,rfl,hid (by rw[HZ2.out];exact HUW.out.fr HFX.out List.not_mem_nil),hid (HF.out.trans (HFX.out.mono (fun k hk=>absurd hk List.not_mem_nil)))⟩
  ·have hke:k=n:=by omega
   have HN2:=hid (show US wr q Z L by rw[HBR.out,←HN.out,←hke];exact HUW.out);have hkI:¬(k:Int)<(n:Int):=by omega
   clear hke;go_wp2;go_end0;exact⟨rfl,HN2.out,(HF2.out.mono (fun k hk=>absurd hk List.not_mem_nil)).trans HF.out⟩
end Go.Proofs.YtnakejhohdbfdaaGreatDoor
namespace Go.Proofs.YtnakejhohdbfdaaGreatDoor
open Go.RowKit Lev Go.Maps
theorem info189:(Tryz.prog.info? 202).map (fun i=>(i.zero,i.size,i.bytes))=some (some (.agg #[.int .i32 0,.int .i64 0,.int .i64 0,.int .i64 0]),4,32):=by kernel_rfl
def cls (s:ByteArray)(k:Nat):Int:=Tabs.look Tabs.classTab (Dec.rune s k)
def ucells (s:ByteArray):Nat→List Value
 | 0=>[]
 | k+1=>ucells s k++[.int .i32 (Dec.rune s k),.int .i64 (cls s k),.int .i64 (cls s k),.int .i64 0]
theorem ucells_len (s:ByteArray):∀k,(ucells s k).length=k * 4
 | 0=>rfl
 | k+1=>by rw[ucells,List.length_append,ucells_len s k];simp;omega
theorem ucells_at (s:ByteArray):∀n i,i<n→(ucells s n)[i * 4]?=some (.int .i32 (Dec.rune s i))∧(ucells s n)[i * 4+1]?=some (.int .i64 (cls s i))∧(ucells s n)[i * 4+2]?=some (.int .i64 (cls s i))∧(ucells s n)[i * 4+3]?=some (.int .i64 0)
 | 0,i,h=>absurd h (Nat.not_lt_zero _)
 | n+1,i,h=>by
   have hl:=ucells_len s n
   rcases Nat.lt_succ_iff_lt_or_eq.1 h with h1 | h1
   ·obtain⟨a1,a2,a3,a4⟩:=ucells_at s n i h1
    rw[ucells];refine⟨?_,?_,?_,?_⟩ <;> rw[List.getElem?_append_left (by omega)] <;> assumption
   ·subst h1
    rw[ucells];refine⟨?_,?_,?_,?_⟩ <;> rw[List.getElem?_append_right (by omega),hl]
    ·simp
    ·simp[show i * 4+1 - i * 4=1 by omega]
    ·simp[show i * 4+2 - i * 4=2 by omega]
    ·simp[show i * 4+3 - i * 4=3 by omega]
theorem unit_one (a b c d:Int):∀u∈[Value.int .i32 a,.int .i64 b,.int .i64 c,.int .i64 d],u.oneCell'=true:=by
 intro u hu;simp at hu
 rcases hu with rfl | rfl | rfl | rfl <;> rfl
def qobj (w:World)(p:Nat)(cs:Array Value):Prop:=w.heap[p]?=some (.cells cs 137 (0,0))
theorem units_of {w:World}{B U n cap:Nat}{s:ByteArray}(h:w.ownsRow B 202 4 (.slice (some ⟨U,0,none⟩) n cap) n (ucells s n)):US w ⟨U,n,Rl s n,Kl s n⟩ (Kl s n) (List.replicate (Kl s n).length 0):=by
 have hk:∀i,i<n→nth (Kl s n) i=cls s i:=fun i hi=>by simp[nth,Kl,cls,hi]
 refine⟨fun i hi=>?_,fun i hi=>?_,fun i hi=>?_,fun i hi=>?_,fun j _=>h.frozenAt j,Kl_len s n,by rw[List.length_replicate,Kl_len]⟩ <;> dsimp only at hi ⊢
 ·rw[h.cellAt _ (by omega),(ucells_at s n i hi).1,Rl_at s hi]
 ·rw[h.cellAt _ (by omega),(ucells_at s n i hi).2.1,hk i hi]
 ·rw[h.cellAt _ (by omega),(ucells_at s n i hi).2.2.1,hk i hi]
 ·rw[h.cellAt _ (by omega),(ucells_at s n i hi).2.2.2]
  have:nth (List.replicate (Kl s n).length 0) i=0:=by simp[nth,Kl_len,hi]
  rw[this]
theorem own_iter' {w:World}{base:Nat}{e:TypeId}{size:Nat}{v:Value}{n:Nat}{xs:List Value}(h:w.ownsRow base e size v n xs){k:Nat}{s:ByteArray}{p:Nat}(hk:w.heap[k]?=some (.stringIter s p))(q:Nat):(w.iterAt k s q).ownsRow base e size v n xs:=by
 refine⟨h.1,?_⟩
 rcases h.2 with h1 | ⟨g,cap,cur,hv,hg,hh,r⟩
 ·exact .inl h1
 ·refine .inr ⟨g,cap,cur,hv,hg,?_,r⟩
  rw[Lib.iterAt_other w k g s q (fun e=>by rw[e,hk]at hh;cases hh)];exact hh
theorem iterPos_of' {w:World}{b:Nat}{s:ByteArray}{p:Nat}(h:w.heap[b]?=some (.stringIter s p)):w.iterPos b=p:=by simp[World.iterPos,h]
theorem below_of_fr' {w w1 w':World}(h:Fr [] w1 w')(hB:w.heap.size≤w1.heap.size):Below w.heap.size w1 w':=h.below hB (fun _ hk=>absurd hk List.not_mem_nil)
theorem below_set' {w w':World}{i:Nat}{v:Value}(h:Below w.heap.size w w'):Below w.heap.size w (w'.setCell ⟨w.heap.size,i,none⟩ v) :=
 ⟨h.os,h.tape,h.output,Nat.le_trans h.size (by simp),fun k hk=>by rw[heap_setCell_other _ _ _ _ (by dsimp only;omega)];exact h.block k hk⟩
set_option linter.unusedSimpArgs false in
set_option maxRecDepth 10000 in
set_option maxHeartbeats 4000000 in
theorem fn20_any (s:ByteArray)(w:World)(hs:s.size≤1000000)(h3:Cls.TabAt w 3 Tabs.lowTab)(h4:Cls.TabAt w 4 Tabs.highTab)(n:Nat)(hend:Dec.Ends s n)(hn0:0<n) :
 Calls Tryz.prog 72 #[.string s] w fun e w'=>∃P U cU mb D,e=.returned (.pointer (some ⟨P,0,none⟩))∧US w' ⟨U,n,Rl s n,Kl s n⟩ (Kl s n) (List.replicate (Kl s n).length 0)∧QM w' ⟨U,n,Rl s n,Kl s n⟩ P cU mb n 0 D∧mb≠U∧Fr [] w w'∧w'.frozen? ⟨P,2,none⟩=false∧w.heap.size≤P∧w.heap.size≤U:=by
 obtain⟨i0,hi,hz0,hz1,hz2⟩:=info_parts info189;have HT3:=hid h3;have HT4:=hid h4;have l3:=h3.lt (by rw[Tabs.len_low];decide);have l4:=h4.lt (by rw[Tabs.len_high];decide);have HEND:=hid hend;have hnb:n≤1000000:=by have:=Dec.le_pos s n;have:=hend.1;omega
 clear h3 h4 hend;go_enter Tryz.func72,Tryz.ntmps72;go_wp2_with fail;go_loopw [5] (fun _ wr=>∃(k p:Nat) (vU:Value),p≤s.size∧k≤p∧wr.heap[w.heap.size+1]?=some (.stringIter s p)∧Hid (p=Dec.pos s k)∧Hid (∀j,j<k→Dec.pos s j<s.size)∧Hid (qobj wr w.heap.size #[vU,.map none,.int .i64 0])∧Hid (wr.ownsRow (w.heap.size+1+1) 202 4 vU k (ucells s k))∧Hid (Below w.heap.size w wr)) (fun _ wr=>s.size - wr.iterPos (w.heap.size+1))
 case atStart =>
  refine⟨0,0,.slice none 0 0,Nat.zero_le _,Nat.le_refl _,?_,hid rfl,hid (fun j hj=>absurd hj (Nat.not_lt_zero _)),hid ?_,hid (World.ownsRow_nil _ _ _ _),hid ?_⟩
  ·have e:(w.alloc (.cells #[.slice none 0 0,.map none,.int .i64 0] 137)).heap.size=w.heap.size+1:=by simp
   rw[←e];exact World.iter_heap _ _ _
  ·exact(Lib.alloc_old _ _ _ (by simp)).trans (heap_alloc_new _ _)
  ·exact((Below.refl _ _).alloc (Nat.le_refl _) _).alloc (by simp) _
 case round =>
  obtain⟨k,p,vU,hp,hkp,hit,HP,HJ,HA,HO,HB⟩:=hrel;obtain⟨a1,c1,hv1⟩:=owns_slice HO.out;subst hv1;by_cases hlt:p<s.size
  ·have hw1:=Dec.width_pos s p
   have hw2:=Dec.width_le s p hlt;have hnx:=fun ty=>Lib.run_next_any_at (P:=Tryz.prog) wr (w.heap.size+1) s p ty hit hlt
   have HQ:Hid (p+(Utf8.decode s p).2=Dec.pos s (k+1)):=by rw[HP.out];rfl
   have HK:Hid ((((Utf8.decode s p).1:Nat):Int)=Dec.rune s k):=by rw[HP.out];rfl
   generalize (Utf8.decode s p).1=r at hnx HK;generalize (Utf8.decode s p).2=wd at hnx HQ hw1 hw2;have hJ2:Hid (∀j,j<k+1→Dec.pos s j<s.size):=by
    intro j hj
    rcases Nat.lt_or_eq_of_le (Nat.le_of_lt_succ hj)with h1 | h1
    ·exact HJ.out j h1
    ·rw[h1,←HP.out];exact hlt
   have HI:=hid (Lib.iterAt_heap wr (w.heap.size+1) s p (p+wd) hit);have HBI:=hid (Lib.below_iterAt HB.out (show w.heap.size≤w.heap.size+1 by omega) s (p+wd));have HAI:=hid ((Lib.iterAt_other wr (w.heap.size+1) w.heap.size s (p+wd) (by omega)).trans HA.out);have HOI:=hid (own_iter' HO.out hit (p+wd));have HIT:=hid hit;generalize wr.iterAt (w.heap.size+1) s (p+wd)=wi at hnx HI HBI HAI HOI;have HC:=hid (Cls.fn22_any (r:Nat) wi (HT3.out.below l3 HBI.out) (HT4.out.below l4 HBI.out));have HCL:=hid (show Tabs.look Tabs.classTab ((r:Nat):Int)=cls s k by rw[HK.out];rfl);generalize Tabs.look Tabs.classTab ((r:Nat):Int)=c at HC HCL;clear hit HO HA;go_wp2_with fail;refine HC.out.mono ?_;rintro e w1 ⟨rfl,hb1⟩;have HF1:=hid (Fr.of_below (S:=[]) hb1);have HI1:Hid (w1.heap[w.heap.size+1]?=some (.stringIter s (p+wd))):=by
    rw[hb1.block _ (Array.getElem?_eq_some_iff.1 HI.out).1];exact HI
   have hA1:=(hb1.block w.heap.size (Array.getElem?_eq_some_iff.1 HAI.out).1).trans HAI.out;have HA1:=hid hA1;have HO1:=hid (owns_fr0 HOI.out HF1.out);have HB1:=hid (HBI.out.trans (hb1.mono HBI.out.size));have g0:w1.cell? ⟨w.heap.size,0,none⟩=some (.slice a1 k c1):=by rw[cell_of_row w1 _ 0 _ _ _ hA1];rfl
   have hPl:w.heap.size<w1.heap.size:=(Array.getElem?_eq_some_iff.1 hA1).1;have hil:w.heap.size+1<w1.heap.size:=(Array.getElem?_eq_some_iff.1 HI1.out).1;clear hA1 hb1 HC HI HBI HAI HOI;go_wp2_with (at_builtin;refine wpList_append_own _ rfl _ _ 134 rfl (w.heap.size+1+1) 202 i0 _ 4 32 Tryz.underlying134 hi hz0 hz1 hz2 rfl (by decide) _ k (ucells s k) rfl ?own _ 1 1 [.int .i32 r,.int .i64 c,.int .i64 c,.int .i64 0] rfl rfl (news_at _ _ _ _ (by simp)) (unit_one _ _ _ _) (by unfold maxLen;omega) (by omega) ?szz ?_)
   case own=>exact owns_fr0 HO1.out ((Fr.refl [] w1).alloc _)
   case szz=>simp;omega
   intro v' w3 own3 hgrow hnil;obtain⟨g',c',hv'⟩:=owns_shape (by omega) own3;subst hv';have hne:∀x,(Value.slice a1 k c1).ownBlock=some x→w.heap.size+1+1≤x:=fun x hx=>(HO1.out.lt x hx).1
   have HA3:=hid (show qobj w3 w.heap.size #[.slice a1 k c1,.map none,.int .i64 0]from(hgrow.block w.heap.size (by simp;omega) (fun e=>by have:=hne _ e.symm;omega)).trans ((Lib.alloc_old _ _ _ hPl).trans HA1.out));have HI3:=hid (show w3.heap[w.heap.size+1]?=some (.stringIter s (p+wd))from(hgrow.block (w.heap.size+1) (by simp;omega) (fun e=>by have:=hne _ e.symm;omega)).trans ((Lib.alloc_old _ _ _ hil).trans HI1.out));have HB3:=hid ((HB1.out.alloc (Nat.le_of_lt hPl) (.cells #[.int .i32 r,.int .i64 c,.int .i64 c,.int .i64 0] 202)).grown hgrow (by simp;omega) (fun x hx=>by have:=hne x hx;omega));have HO3:=hid own3;have f0:w3.cell? ⟨w.heap.size,0,none⟩=some (.slice a1 k c1):=by rw[cell_of_row w3 _ 0 _ _ _ HA3.out];rfl
   have f1:=frozen_of_row w3 w.heap.size 0 _ 137 HA3.out;have hgp:w.heap.size+1+1≤g':=(owns_at own3).1;clear own3 hgrow hnil hne;go_wp2;go_roundw
   case rel =>
    refine⟨k+1,p+wd,_,by omega,by omega,?_,HQ,hJ2,hid (heap_setCell_same w3 w.heap.size 0 _ 137 _ HA3.out),hid ?_,hid (below_set' HB3.out)⟩
    ·rw[heap_setCell_other _ _ _ _ (by dsimp only;omega)];exact HI3.out
    ·rw[ucells,←HCL.out,←HK.out]
     exact owns_fr HO3.out (fr_set1 _ w.heap.size 0 _) (fun y hy hm=>by cases hy;have h5:g'=w.heap.size:=List.mem_singleton.1 hm;omega)
   case measure=>rw[iterPos_of' (show(w3.setCell ⟨w.heap.size,0,none⟩ _).heap[w.heap.size+1]?=some (.stringIter s (p+wd)) by rw[heap_setCell_other _ _ _ _ (by dsimp only;omega)];exact HI3.out),iterPos_of' HIT.out];omega
  ·have hpe:p=s.size:=by omega
   have hkn:n=k:=(Dec.ends_unique ⟨by rw[←HP.out];exact hpe,HJ.out⟩ HEND.out).symm;subst hkn;have hnx:=fun ty=>Lib.run_next_end_at (P:=Tryz.prog) wr (w.heap.size+1) s p ty hit hlt
   obtain⟨U,cU,hsh⟩:=owns_shape hn0 HO.out;cases hsh;have HU:=hid (units_of HO.out);have hUg:=owns_at HO.out;have HC98:=hid (fn43_any ⟨U,n,Rl s n,Kl s n⟩ (Kl s n) (List.replicate (Kl s n).length 0) c1 wr HU.out hnb hn0);dsimp only at HC98;have g0:wr.cell? ⟨w.heap.size,0,none⟩=some (.slice (some ⟨U,0,none⟩) n c1):=by rw[cell_of_row wr _ 0 _ _ _ HA.out];rfl
   have hPl:w.heap.size<wr.heap.size:=(Array.getElem?_eq_some_iff.1 HA.out).1;clear hpe;go_wp2_with (first | (go_at_call 125;refine HC98.out.mono ?_;rintro e w1 ⟨rfl,hD,hf1⟩;obtain⟨D,hD1,hD2⟩:=hD;have HD1:=hid hD1;have HD2:=hid hD2;have HF1:=hid hf1;have HA1:=hid (show qobj w1 w.heap.size #[.slice (some ⟨U,0,none⟩) n c1,.map none,.int .i64 0]from(hf1.block w.heap.size hPl List.not_mem_nil).trans HA.out);have f0:w1.cell? ⟨w.heap.size,1,none⟩=some (.map none):=(by rw[cell_of_row w1 _ 1 _ _ _ HA1.out];rfl);have f1:=frozen_of_row w1 w.heap.size 1 _ 137 HA1.out;clear hD1 hD2 hf1));go_ret;have HA2:=heap_setCell_same w1 w.heap.size 1 _ 137 (.map (some wr.heap.size)) HA1.out;have hset:=fr_set1 w1 w.heap.size 1 (.map (some wr.heap.size));have hne:U ∉ [w.heap.size]:=fun h=>by have:=List.mem_singleton.1 h;omega
   refine⟨w.heap.size,U,c1,wr.heap.size,D,rfl,(HU.out.fr HF1.out List.not_mem_nil).fr hset hne,⟨⟨?_,?_,by dsimp only;omega⟩,?_,HD1.out.setCell (by dsimp only;omega) _,HD2.out⟩,by omega,?_,frozen_of_row _ _ 2 _ 137 HA2,Nat.le_refl _,by omega⟩
   ·rw[cell_of_row _ _ 0 _ _ _ HA2];rfl
   ·rw[cell_of_row _ _ 2 _ _ _ HA2];rfl
   ·rw[cell_of_row _ _ 1 _ _ _ HA2];rfl
   ·exact Fr.of_below (below_set' (HB.out.trans (below_of_fr' HF1.out HB.out.size)))
end Go.Proofs.YtnakejhohdbfdaaGreatDoor

import Derived.Test.YtnakejhohdbfdacGreatDoorKPrY
import Derived.Test.YtnakejhohdbfdacGreatDoorKPrK
import Derived.Test.YtnakejhohdbfdacGreatDoorKBrE
import Derived.Test.YtnakejhohdbfdacGreatDoorKPrL
import Derived.Test.YtnakejhohdbfdacGreatDoorKLdG
import Derived.Test.YtnakejhohdbfdacGreatDoorKPvA
import Derived.Test.YtnakejhohdbfdacGreatDoorKLdH
import Derived.Test.YtnakejhohdbfdacGreatDoorKMf
namespace Go.Proofs.YtnakejhohdbfdacGreatDoor
open Go.RowKit Lev Go.Maps
theorem nd_scan {s:Sq}{C:List Int}(hI:inj s.I)(hw:within s.I C)(ho:s.own=0∨s.own=1)(hb:s.bef=0∨s.bef=1)(h:Among S3 s.I C s.I.length):scan s.I isNd (neAct s) C=neutral s C:=by
 have key:∀k,k≤s.I.length→scanTo s.I isNd (neAct s) k (0,C)=scanTo s.I isNe (neAct s) k (0,C):=by
  intro k
  induction k with
  | zero=>intro _;rfl
  | succ k ih =>
    intro hk;have hv:=(ne_inv hI hw ho hb h k (by omega)).all k (by omega);rw[scanTo,scanTo,ih (by omega),scanStep,scanStep,nd_ne hv]
 rw[scan,neutral,scan,key _ (Nat.le_refl _)]
theorem base_01 {K:List Int}{b:Int}(hb:b=0∨b=1∨b=2):baseOf K b=0∨baseOf K b=1:=by
 unfold baseOf;split
 ·split
  ·exact .inr rfl
  ·exact .inl rfl
 ·omega
structure SqOk (R K L C0:List Int)(base:Int)(ss:List (List Nat))(i:Nat):Prop where
 ne:run ss i≠[]
 sm:(run ss i).length≤K.length
 lt:∀x∈run ss i,x<K.length
 inj:inj (run ss i)
 w:within (run ss i) (rulesTo R K L base ss i C0)
 s0:Among S0 (run ss i) (rulesTo R K L base ss i C0) (run ss i).length
 g:∀x,0≤nth (growAll R K L base ss C0 i) x∧nth (growAll R K L base ss C0 i) x≤1000
theorem lift_le (l c:Int):0≤lift l c∧lift l c≤2:=by
 unfold lift;split
 ·omega
 ·split <;> omega
theorem sq_ok (R K:List Int)(base:Int)(hb:base=0∨base=1)(hK:∀i,0≤nth K i∧nth K i≤22)(i:Nat)(hi:i<(seqs K (runsTo K (embTo K base K.length).L K.length)).length) :
 SqOk R K (embTo K base K.length).L (embTo K base K.length).C base (seqs K (runsTo K (embTo K base K.length).L K.length)) i:=by
 have he:=emb_inv K base hb K.length (Nat.le_refl _);have hc:=emb_C K base hb K.length (Nat.le_refl _);obtain⟨ho,hng⟩:=ss_ok K base hb;have hrun:=run_inv K (embTo K base K.length).L K.length;have hrok:=runs_ok K (embTo K base K.length).L;have hal:=all_level hrun hrok (fun a b h1 h2=>follow_level hb h1 h2) _ (Nat.le_refl _);have hsh:=all_short (K:=K) (rs:=runsTo K (embTo K base K.length).L K.length) _ (Nat.le_refl _);have hfl:=flat_le hrun (k:=(runsTo K (embTo K base K.length).L K.length).length);rw[dv_seqs hrok]at hal hsh;generalize embTo K base K.length=e at *;generalize runsTo K e.L K.length=rs at *;generalize seqs K rs=ss at *;have hget:ss[i]?=some (run ss i):=by rw[run_get hi];exact List.getElem?_eq_getElem hi
 have hout:∀y,y∈run ss i→nth (rulesTo R K e.L base ss i e.C) y=nth e.C y:=fun y hy=>by
  rw[rulesTo_out 0 i (Nat.zero_le _) (fun t _ h2 h3=>by have:=ho.ap t i y (by omega) hi h3 hy;omega)];rfl
 have hlen:(rulesTo R K e.L base ss i e.C).length=e.C.length:=rulesTo_len (fun _ C=>rules_len R K _ C) i;refine⟨(hal i _ hget).1,by have:=hsh i _ hget;omega,fun x hx=>ho.lt i x hi hx,sorted_inj (ho.so i hi),fun k hk=>?_,fun j hj=>?_,fun x=>?_⟩
 ·rw[hlen,he.len.2,nix_of_get hk];exact ho.lt i _ hi (List.getElem_mem hk)
 ·unfold cl
  rw[nix_of_get hj,hout _ (List.getElem_mem hj)];exact S0_of hc hK (hng i _ hi (List.getElem_mem hj))
 ·obtain⟨g1,g2⟩:=growAll_at (R:=R) (base:=base) (C0:=e.C) ho he.len.1 i (by omega)
  have hs:=he.small x;by_cases hx:∃t,t<i∧x∈run ss t
  ·obtain⟨t,ht,hm⟩:=hx
   rw[g1 t x ht hm];have:=lift_le (nth e.L x) (nth (rulesTo R K e.L base ss ss.length e.C) x);omega
  ·rw[g2 x (fun t ht hm=>hx ⟨t,ht,hm⟩)];omega
theorem SB.seq {w:World}{B S:Nat}{v:Value}{q:UH}{K L:List Int}{base:Int}{I:List Nat}(h:SB w B S v I (nth L (firstN I)) (seqOf K L base I).bef (seqOf K L base I).aft q.U)(hU:q.U<B)(hne:I≠[])(hlt:∀x∈I,x<q.n)(hsm:I.length≤1000000):∃Q cQ,B≤Q∧SS w q S Q cQ (seqOf K L base I) (nth L (firstN I)):=by
 obtain⟨Q,cQ,hv⟩:=owns_shape (List.length_pos_iff.2 hne) h.r;subst hv;have hat:=owns_at h.r;have hle:=h.le;refine⟨Q,cQ,hat.1,h.cell rfl,h.cell rfl,h.cell rfl,h.cell rfl,fun k hk=>?_,fun k hk=>?_,⟨by omega,by omega⟩,hsm,owns_cap' h.r⟩
 ·rw[h.r.cellAt k (by rw[Nat.mul_one];exact hk)];exact ptrs_at q.U I k hk
 ·rw[show nix (seqOf K L base I).I k=I[k]'hk from nix_of_get hk];exact hlt _ (List.getElem_mem _)
end Go.Proofs.YtnakejhohdbfdacGreatDoor
namespace Go.Proofs.YtnakejhohdbfdacGreatDoor
open Go.RowKit Lev Go.Maps
theorem map_no_cell {w:World}{b n:Nat}{D:DataW Unit}(h:w.ownsMap Tryz.prog 3 (plainElem Tryz.prog 3) b n D)(i:Nat):w.cell? ⟨b,i,none⟩=none:=by
 obtain⟨es,clock,hb,_⟩:=h;simp[World.cell?,hb]
theorem QM.setLv {w:World}{q:UH}{P cU mb n:Nat}{lv:Int}{D:DataW Unit}(h:QM w q P cU mb n lv D)(x:Int):QM (w.setCell ⟨P,2,none⟩ (.int .i64 x)) q P cU mb n x D:=by
 have other:∀ {o:Nat} {y:Value},o≠2→w.cell? ⟨P,o,none⟩=some y→(w.setCell ⟨P,2,none⟩ (.int .i64 x)).cell? ⟨P,o,none⟩=some y:=fun ho hx=>by
  rw[World.cell?_setCell_other _ _ _ _ (fun e=>ho (by cases e;rfl))];exact hx
 have hne:mb ∉ [P]:=fun hm=>by
  have h1:=map_no_cell h.m 2;rw[List.mem_singleton.1 hm,h.s.c2]at h1;cases h1
 exact⟨⟨other (by decide) h.s.c0,World.cell?_setCell_same _ _ _ h.s.c2,h.s.ne⟩,other (by decide) h.c1,map3_fr h.m (fr_set1 w P 2 _) hne,h.i⟩
set_option maxRecDepth 100000 in
set_option maxHeartbeats 8000000 in
theorem of_any (s:ByteArray)(b:Int)(w:World)(hs:s.size≤1000000)(hb:b=0∨b=1∨b=2)(h3:Cls.TabAt w 1 Tabs.lowTab)(h4:Cls.TabAt w 2 Tabs.highTab)(n:Nat)(hend:Dec.Ends s n)(hn0:0<n)(hn:n≤1000000)(hK:∀i,0≤nth (Kl s n) i∧nth (Kl s n) i≤22) :
 Calls Tryz.prog 111 #[.string s,.int .i64 b] w fun e w'=>∃g,e=.returned (.tuple #[.slice (some ⟨g,0,none⟩) n n,.int .i64 (baseOf (Kl s n) b)])∧rowAt w' g n (levels (Rl s n) (Kl s n) (baseOf (Kl s n) b))∧Fr [] w w'∧w.heap.size≤g∧soft w' g n:=by
 have H65:=hid (fn20_any s w hs h3 h4 n hend hn0);have HB:=hid (base_01 (K:=Kl s n) hb);have HKL:=hid (Kl_len s n);have HLD:=hid (levels_dev (Rl s n) (Kl s n) (baseOf (Kl s n) b) (base_01 hb) hK);have HSQ:=hid (sq_ok (Rl s n) (Kl s n) (baseOf (Kl s n) b) (base_01 hb) hK);have HEI:=hid (emb_inv (Kl s n) (baseOf (Kl s n) b) (base_01 hb) (Kl s n).length (Nat.le_refl _));have HFL:=hid (fun(a c:List Nat) h1 h2=>follow_level (K:=Kl s n) (base:=baseOf (Kl s n) b) (base_01 hb) (a:=a) (b:=c) h1 h2);have H66:=hid (fun(U P cU mb:Nat) (D:DataW Unit) (Y:World) hu hq=>fn21_any ⟨U,n,Rl s n,Kl s n⟩ (Kl s n) (List.replicate (Kl s n).length 0) P cU mb n 0 D b Y hu hq (Kl_len s n) hn hb);obtain⟨lv,hlv⟩:∃lv,lv=baseOf (Kl s n) b:=⟨_,rfl⟩;dsimp only at H66;rw[←hlv]at HB HLD HSQ HEI HFL H66;rw[←hlv];rw[HKL.out]at HLD HSQ HEI HFL;generalize Rl s n=R at *;generalize Kl s n=K at *;generalize levels R K lv=Z at *;clear hlv hb h3 h4 hend hs hK;go_enter Tryz.func111,Tryz.ntmps111;go_wp2_with fail;refine H65.out.mono ?_;rintro e w1 ⟨P,U,cU,mb,D,rfl,hu1,hq1,hmU,hf1,hfz,hPw,hUw⟩;have H66b:=hid (H66.out U P cU mb D w1 hu1 hq1);have HU1:=hid hu1;have HQ1:=hid hq1;have HF1:=hid hf1;have c2:=hq1.s.c2;have hPU:=hq1.s.ne;have hml:=hq1.m.lt;have hPl:=World.block_lt_of_cell? _ _ c2;have hUl:U<w1.heap.size:=World.block_lt_of_cell? _ _ (hu1.r 0 hn0);dsimp only at hPU hPl;clear hu1 hq1 hf1 H65 H66;go_wp2_with fail;refine H66b.out.mono ?_;rintro e w1 ⟨rfl,rfl⟩;have HQ2:=hid (HQ1.out.setLv lv);have HU2:=hid (HU1.out.fr (fr_set1 w1 P 2 (.int .i64 lv)) (fun hm=>hPU (List.mem_singleton.1 hm).symm));have HF2:=hid (show Fr [] w (w1.setCell ⟨P,2,none⟩ (.int .i64 lv))from HF1.out.behind (fr_set1 w1 P 2 _) (fun k hk=>by rw[List.mem_singleton.1 hk];exact hPw));have H67:=hid (fn22p_any ⟨U,n,R,K⟩ P cU mb n lv D _ HU2.out HQ2.out hmU HKL.out hn hn0 HB.out);clear H66b;go_wp2_with fail;refine H67.out.mono ?_;rintro e w3 ⟨rfl,hu3,hf3⟩;have HU3:=hid hu3;have HF3:=hid hf3;have HQ3:=hid (HQ2.out.fr hf3 (fun hm=>hPU (List.mem_singleton.1 hm)) (fun hm=>hmU (List.mem_singleton.1 hm)));have H68:=hid (seqs_any ⟨U,n,R,K⟩ (embTo K lv n).C (embTo K lv n).L P cU mb n lv D w3 hu3 HQ3.out HKL.out hn hn0 (fun i=>(HEI.out.small i).1) (by dsimp only;rw[HKL.out];exact HFL.out));dsimp only at H68;rw[HKL.out]at H68;generalize hE:embTo K lv n=E at *;clear hu3 hf3 H67 hE;have HCNT:=hid (show(seqs K (runsTo K E.L n)).length≤n by have h5:=runs_ok K E.L;have h6:=runs_short K E.L K.length;rw[←dv_seqs (by rw[HKL.out]at h5;exact h5)];have h7:=all_count K (runsTo K E.L n) (runsTo K E.L n).length;rw[HKL.out]at h6;omega);generalize seqs K (runsTo K E.L n)=ss at *;go_wp2_with fail;refine H68.out.mono ?_;rintro e w4 ⟨v,gs,B,rfl,hal,hgs,hB,hf4⟩;have hlen:=gs_len hgs;obtain⟨m,hm⟩:∃m,m=gs.length:=⟨_,rfl⟩;obtain⟨a4,c4,hv4⟩:=owns_slice hal.own;rw[←hm]at hv4;subst hv4;have HA:=hid hal;have HG:=hid hgs;have HF4:=hid hf4;have HM:=hid hm;have HML:=hid (hm.trans hlen);have hUB:U<B:=by have h5:=HF3.out.size;have h6:=HF2.out.size;simp at h5;omega
 have hmb:m≤1000000:=by
  have h5:=HCNT.out;rw[←hlen,←hm]at h5;omega
 clear hal hgs hf4 hm hlen H68;go_wp2;go_loopw [22] (fun a wr=>∃(k:Nat),a=.int .i64 k∧k≤m∧Hid (US wr ⟨U,n,R,K⟩ (rulesTo R K E.L lv ss k E.C) (growAll R K E.L lv ss E.C k))∧Hid (Fr [U] w4 wr)) (fun a _=>m - (Go.RowKit.intOf a).toNat)
 case atStart=>exact⟨0,rfl,Nat.zero_le _,hid (HU3.out.fr HF4.out List.not_mem_nil),hid (Fr.refl _ _)⟩
 case round =>
  obtain⟨k,rfl,hk,HUW,HF⟩:=hrel;by_cases hlt:k<m
  ·have hown:=HA.out.own
   rw[←HM.out]at hown;obtain⟨g4,c5,hsh⟩:=owns_shape (by omega) hown;cases hsh;have hkg:k<gs.length:=by rw[←HM.out];exact hlt
   obtain⟨d,hd⟩:∃d,gs[k]?=some d:=⟨_,List.getElem?_eq_getElem hkg⟩;obtain⟨S,v1,I,lv1,bef1,aft1⟩:=d;have hgm:=HG.out.2 _ (List.mem_of_getElem? hd);dsimp only at hgm;obtain⟨rfl,rfl,rfl⟩:=hgm;have hI:run ss k=I:=by have h5:=gs_at HG.out hd;simp[run,h5]
   have hsb:=HA.out.sb k _ hd;dsimp only at hsb;have hg4:=(owns_at hown).1;have p1:=HF.out.cell (HA.out.cell hd HM.out) (fun hx=>by have:=List.mem_singleton.1 hx;omega);dsimp only at p1;have hSl:=hsb.le;have hsb2:=hsb.fr HF.out (fun hx=>by have:=List.mem_singleton.1 hx;omega) (fun g hg hx=>by have h5:=(hsb.r.lt g hg).1;have:=List.mem_singleton.1 hx;omega);have HSO:=hid (HSQ.out k (by rw[←HML.out];exact hlt));have HRN:=hid (show rulesTo R K E.L lv ss (k+1) E.C=rules R K (seqOf K E.L lv (run ss k)) (rulesTo R K E.L lv ss k E.C)from rfl);have HGN:=hid (show growAll R K E.L lv ss E.C (k+1)=growTo (run ss k) (nth E.L (firstN (run ss k))) (rulesTo R K E.L lv ss (k+1) E.C) (run ss k).length (growAll R K E.L lv ss E.C k)from rfl);rw[hI]at HRN HGN;have sne:=HSO.out.ne;have ssm:=HSO.out.sm;have slt:=HSO.out.lt;have sinj:=HSO.out.inj;have sw:=HSO.out.w;have ss0:=HSO.out.s0;have sg:=HSO.out.g;rw[hI]at sne ssm slt sinj sw ss0;rw[HKL.out]at ssm slt;obtain⟨Q,cQ,hBQ,hss⟩:=SB.seq (q:=⟨U,n,R,K⟩) hsb2 hUB sne slt (by omega);obtain⟨sq,hsq⟩:∃sq,sq=seqOf K E.L lv I:=⟨_,rfl⟩;have hsqI:sq.I=I:=by rw[hsq];rfl
   have hsqb:sq.bef=0∨sq.bef=1:=by rw[hsq];exact way_01 _
   have hsqo:sq.own=way (nth E.L (firstN I)):=by rw[hsq];rfl
   have hsqo1:sq.own=0∨sq.own=1:=by rw[hsqo];exact way_01 _
   have hl1:=(HEI.out.small (firstN I)).1;rw[←hsq]at hss HRN;rw[←hsqI]at sne sinj sw ss0 HGN;rw[hsqI]at HGN;have h0:0<sq.I.length:=List.length_pos_iff.2 sne;generalize nth E.L (firstN I)=lv1 at *;generalize rulesTo R K E.L lv ss k E.C=C1 at *;generalize growAll R K E.L lv ss E.C k=L1 at *;obtain⟨C2,hC2⟩:∃C2,C2=rulesTo R K E.L lv ss (k+1) E.C:=⟨_,rfl⟩;rw[←hC2]at HRN HGN;have HCE:=hid hC2;have HSS:=hid (fun X (hf:Fr [U] wr X)=>hss.fr hf (fun hx=>hss.ne.1 (List.mem_singleton.1 hx)) (fun hx=>hss.ne.2 (List.mem_singleton.1 hx)));have hw5:=weak_S (K:=K) hsqb sw ss0;have H69:=hid (fn24_any ⟨U,n,R,K⟩ C1 L1 S Q cQ sq lv1 wr HUW.out hss hsqb ss0 (fun C X hu hs=>term_any ⟨U,n,R,K⟩ C L1 S Q cQ sq lv1 X hu hs h0));have hkI:(k:Int)<(m:Int):=by omega
   have HC2:=hid (show C2=neutral sq (brackets R K sq (weak K sq C1))from HRN.out);have HI:=hid hsqI;have HNS:=hid (fun h=>nd_scan (s:=sq) (C:=brackets R K sq (weak K sq C1)) sinj h hsqo1 hsqb (br_S hsqb hsqo1 _ hw5.1 _));have HBL:=hid (show(brackets R K sq (weak K sq C1)).length=C1.length by rw[brackets,br_len];exact hw5.2);have HSW:=hid (show within sq.I C1 from sw);clear hsb hsb2 hown hd hI hss sw ss0 hw5 HRN HSO sne hsq hsqI slt hC2;go_wp2_with fail;refine H69.out.mono ?_;rintro e w5 ⟨rfl,hu5,hf5⟩;have H70:=hid (brk_any ⟨U,n,R,K⟩ _ L1 S Q cQ sq lv1 w5 hu5 (HSS.out w5 hf5) h0 hl1 hsqo hsqb);have HF5:=hid hf5;clear hu5 hf5 H69;go_wp2_with fail;refine H70.out.mono ?_;rintro e w6 ⟨rfl,hu6,hf6⟩;have HF6:=hid (HF5.out.trans hf6);have H71:=hid (neut_any ⟨U,n,R,K⟩ _ L1 S Q cQ sq lv1 w6 hu6 (HSS.out w6 HF6.out) h0 hl1 hsqo);dsimp only at H71;rw[HNS.out (HSW.out.of HBL.out),←HC2.out]at H71;clear hu6 hf6 H70;go_wp2_with fail;refine H71.out.mono ?_;rintro e w7 ⟨rfl,hu7,hf7⟩;have HF7:=hid (HF6.out.trans hf7);have H72:=hid (fn27_any ⟨U,n,R,K⟩ C2 L1 S Q cQ sq lv1 w7 hu7 (HSS.out w7 HF7.out) hl1 sinj sg);clear hu7 hf7 H71;go_wp2_with fail;refine H72.out.mono ?_;rintro e w8 ⟨rfl,hu8,hf8⟩;have HU8:=hid (show US w8 ⟨U,n,R,K⟩ C2 (growAll R K E.L lv ss E.C (k+1)) by rw[HGN.out,←HI.out];exact hu8);have HF8:=hid (HF.out.trans (HF7.out.trans hf8));clear hu8 hf8 H72;go_wp2;go_roundw
   case rel=>exact⟨k+1,by go_num,by omega,hid (by rw[←HCE.out];exact HU8.out),HF8⟩
   case measure=>simp[Go.RowKit.intOf];omega
  ·have hke:k=m:=by omega
   have hkI:¬(k:Int)<(m:Int):=by omega
   have HQW:=hid (((HQ3.out.fr HF4.out List.not_mem_nil List.not_mem_nil).s).fr HF.out (fun hx=>hPU (List.mem_singleton.1 hx)));have H73:=hid (fn28_any ⟨U,n,R,K⟩ _ _ P cU lv wr HUW.out HQW.out hn);dsimp only at H73;have HZ:=hid (show(passTo K lv n (growAll R K E.L lv ss E.C k)).2=Z by rw[HLD.out,hke,HML.out]);rw[HZ.out]at H73;clear hke;go_wp2_with fail;refine H73.out.mono ?_;rintro e w5 ⟨rfl,hu5,hf5⟩;have HQ5:=hid (HQW.out.fr hf5 (fun hx=>hPU (List.mem_singleton.1 hx)));have H74:=hid (fun X (hf:Fr [] w5 X)=>fn29_any ⟨U,n,R,K⟩ _ Z P cU lv X (hu5.fr hf List.not_mem_nil) (HQ5.out.fr hf List.not_mem_nil) hn hn0);have HF5:=hid (show Fr [] w w5 from(((HF2.out.behind HF3.out (fun k hk=>by rw[List.mem_singleton.1 hk];exact hUw)).trans HF4.out).behind HF.out (fun k hk=>by rw[List.mem_singleton.1 hk];exact hUw)).behind hf5 (fun k hk=>by rw[List.mem_singleton.1 hk];exact hUw));have c2':=HQ5.out.c2;clear hu5 hf5 H73;go_wp2;go_region_with (first | (go_at_call 144;refine(H74.out _ ?_).mono ?_;exact frz _ _ _ rfl rfl rfl rfl;rintro e w6 ⟨g,rfl,hg,hrow,hf6⟩;have hf6':Fr [] w5 w6:=⟨hf6.os,hf6.tape,hf6.output,hf6.size,hf6.block⟩;have HF6:=hid (HF5.out.trans hf6');have HR6:=hid hrow;have HG6:=hid hg.1;have HS6:=hid hg.2;have c3:=hf6'.cell c2' List.not_mem_nil;clear hf6 hf6' hrow hg))
   all_goals (
    go_wp2
    go_ret2
    exact⟨g,rfl,HR6.out,HF6.out,Nat.le_trans HF5.out.size HG6.out,HS6.out⟩)
end Go.Proofs.YtnakejhohdbfdacGreatDoor
namespace Go.Proofs.YtnakejhohdbfdacGreatDoor
open Go.RowKit Lev Go.Maps
structure QN (w:World)(P:Nat)(lv:Int):Prop where
 o:∃mb,w.heap[P]?=some (.cells #[.slice none 0 0,.map (some mb),.int .i64 lv] 260 (0,0))
theorem QN.fr {T:List Nat}{w w':World}{P:Nat}{lv:Int}(h:QN w P lv)(hf:Fr T w w')(hP:P ∉ T):QN w' P lv:=by
 obtain⟨mb,h⟩:=h;exact⟨mb,(hf.block P (Array.getElem?_eq_some_iff.1 h).1 hP).trans h⟩
theorem QN.c0 {w:World}{P:Nat}{lv:Int}(h:QN w P lv):w.cell? ⟨P,0,none⟩=some (.slice none 0 0):=by
 obtain⟨mb,h⟩:=h;rw[cell_of_row _ _ 0 _ 260 (0,0) h];rfl
theorem QN.c2 {w:World}{P:Nat}{lv:Int}(h:QN w P lv):w.cell? ⟨P,2,none⟩=some (.int .i64 lv):=by
 obtain⟨mb,h⟩:=h;rw[cell_of_row _ _ 2 _ 260 (0,0) h];rfl
theorem QN.f2 {w:World}{P:Nat}{lv:Int}(h:QN w P lv):w.frozen? ⟨P,2,none⟩=false:=by
 obtain⟨mb,h⟩:=h;exact frozen_of_row _ _ 2 _ 260 h
theorem QN.set {w:World}{P:Nat}{lv:Int}(h:QN w P lv)(x:Int):QN (w.setCell ⟨P,2,none⟩ (.int .i64 x)) P x:=by
 obtain⟨mb,h⟩:=h;exact⟨mb,by rw[heap_setCell_same _ _ 2 _ 260 _ h];rfl⟩
end Go.Proofs.YtnakejhohdbfdacGreatDoor
namespace Go.Proofs.YtnakejhohdbfdacGreatDoor
open Go.RowKit Lev Lay Bnd
def evOf (s:ByteArray)(n:Nat)(bs:Int)(Br:List Int)(i:Nat):Int:=elv (Kl s n) (levels (Rl s n) (Kl s n) bs) bs (edg (bix s n) (bnd s n) Br) i
def eiOf (s:ByteArray)(n:Nat)(Br:List Int)(k:Nat):Nat:=ei (bnd s n) (cn s n) Br k
def lns (s:ByteArray)(n:Nat)(bs:Int)(W Br:List Int)(k:Nat):List Ln:=(List.range k).map fun j=>lnOf (Dec.pos s) (nix (bix s n)) (evOf s n bs Br) W (eiOf s n Br j) (eiOf s n Br (j+1))
theorem lns_len (s:ByteArray)(n:Nat)(bs:Int)(W Br:List Int)(k:Nat):(lns s n bs W Br k).length=k:=by simp[lns]
def lvs (s:ByteArray)(Lv:List Int)(i:Nat):List Int:=(begs s i).map (nth Lv)
theorem lvs_yes {s:ByteArray}{Lv:List Int}{i:Nat}(h:beg s i=true):lvs s Lv (i+1)=lvs s Lv i++[nth Lv i]:=by rw[lvs,begs_yes h,List.map_append];rfl
theorem lvs_no {s:ByteArray}{Lv:List Int}{i:Nat}(h:beg s i=false):lvs s Lv (i+1)=lvs s Lv i:=by rw[lvs,begs_no h];rfl
theorem lvs_len (s:ByteArray)(Lv:List Int)(i:Nat):(lvs s Lv i).length=(begs s i).length:=by simp[lvs]
theorem lvs_at {s:ByteArray}{Lv:List Int}{i k:Nat}(h:k<(begs s i).length):nth (lvs s Lv i) k=nth Lv (nix (begs s i) k):=by simp[nth,lvs,nix,h]
theorem wl_yes {s:ByteArray}{W:List Int}{i:Nat}(h:beg s i=true):wl s W (i+1)=(wl s W i++[0]).set (wl s W i).length (0+nth W i):=by
 rw[wl,if_pos h,List.set_append_right _ _ (Nat.le_refl _),Nat.sub_self,List.set_cons_zero,Int.zero_add]
theorem wl_no {s:ByteArray}{W:List Int}{i:Nat}(h:beg s i=false):wl s W (i+1)=(wl s W i).set ((wl s W i).length - 1) (nth (wl s W i) ((wl s W i).length - 1)+nth W i):=by
 rw[wl,if_neg (by rw[h];exact Bool.false_ne_true)]
theorem begs_lt_bix {s:ByteArray}{n i:Nat}(hi:i≤n)(hn:0<n):(begs s i).length<(bix s n).length:=by
 obtain⟨d,rfl⟩:∃d,n=i+d:=⟨n - i,by omega⟩;have h:=(begs_prefix s i d).length_le;rw[bix,if_neg (by omega),List.length_append];simp only[List.length_cons,List.length_nil];omega
theorem beg_pos {s:ByteArray}{i:Nat}(h:beg s i=false):0<i:=by
 rcases Nat.eq_zero_or_pos i with h0 | h0
 ·rw[h0]at h;exact absurd h (by simp[beg])
 ·exact h0
theorem begs_some (s:ByteArray){i:Nat}(h:0<i):0<(begs s i).length:=(begs_len s i).2 h
theorem beg_look {s:ByteArray}{n i:Nat}(h:Dec.Ends s n)(hn:0<n)(hi:i<n):(((Dec.pos s i:Nat):Int) == nth (bnd s n) (begs s i).length)=beg s i:=by
 have hl:=begs_lt_bix (s:=s) (Nat.le_of_lt hi) hn;rw[bnd_nth h hl];cases hb:beg s i
 ·have h2:=(bix_next (s:=s) hi).2 hb
  have h3:nix (bix s n) (begs s i).length≤n:=by
   rcases Nat.lt_or_eq_of_le (show(begs s i).length≤cn s n by unfold cn;omega)with h4 | h4
   ·have:=nix_lt (bix_sorted s n) h4 (by unfold cn;omega);rw[bix_last]at this;omega
   ·rw[h4,bix_last];exact Nat.le_refl _
  have h5:=Dec.pos_mono s _ _ h2;simp;omega
 ·rw[(bix_next (s:=s) hi).1 hb];simp
theorem ints64_set (l:List Int)(k:Nat)(x:Int):(ints64 l).set k (.int .i64 x)=ints64 (l.set k x):=by simp[ints64,List.map_set]
theorem wl_bound (s:ByteArray)(W:List Int)(h:∀i,0≤nth W i∧nth W i≤1073741824)(i j:Nat)(hj:j<(begs s i).length):0≤nth (wl s W i) j∧nth (wl s W i) j≤i * 1073741824:=by
 rw[wl_at s W i j hj];have hm:=begs_lt s i _ (nix_mem (l:=begs s i) (k:=j) hj);split
 ·rename_i h1
  have hm2:=begs_lt s i _ (nix_mem (l:=begs s i) (k:=j+1) h1);have h2:=wid_bound W 1073741824 h (nix (begs s i) j) (nix (begs s i) (j+1) - nix (begs s i) j);have h3:((nix (begs s i) (j+1) - nix (begs s i) j:Nat):Int) * 1073741824≤(i:Int) * 1073741824:=Int.mul_le_mul_of_nonneg_right (by omega) (by omega);rw[wid];exact⟨h2.1,by omega⟩
 ·have h2:=wid_bound W 1073741824 h (nix (begs s i) j) (i - nix (begs s i) j)
  have h3:((i - nix (begs s i) j:Nat):Int) * 1073741824≤(i:Int) * 1073741824:=Int.mul_le_mul_of_nonneg_right (by omega) (by omega);rw[wid];exact⟨h2.1,by omega⟩
set_option maxRecDepth 10000 in
set_option maxHeartbeats 4000000 in
theorem signs_any (s:ByteArray)(n:Nat)(b:Int)(vB:Value)(gW oW cW gT cT gL cL:Nat)(W Lv R:List Int)(w:World)(hs:s.size≤400)(hend:Dec.Ends s n)(hn:0<n)(ht:Cls.TabAt w 0 Tabs.kindTab)(hW:rowO w gW oW n W)(hWb:∀i,0≤nth W i∧nth W i≤1073741824)
 (hT:∀i,i<n→w.cell? ⟨gT,i * 3,none⟩=some (.int .i32 (nth R i))∧w.cell? ⟨gT,i * 3+1,none⟩=some (.int .i64 (Dec.pos s i:Nat))∧w.cell? ⟨gT,i * 3+2,none⟩=some (.int .i64 (Dec.pos s (i+1):Nat))) (hL:rowAt w gL n Lv) :
 Calls Tryz.prog 113 #[.agg #[.string s,.int .i64 b,.slice (some ⟨gW,oW,none⟩) n cW,vB],.slice (some ⟨gT,0,none⟩) n cT,.slice (some ⟨gL,0,none⟩) n cL] w fun e w'=>∃vs:Array Value,e=.returned (.agg vs)∧Hid (∃gB cB gV cV gX cX,vs=#[.slice (some ⟨gB,0,none⟩) (cn s n+1) cB,.slice (some ⟨gV,0,none⟩) (cn s n) cV,.slice (some ⟨gX,0,none⟩) (cn s n) cX]∧rowAt w' gB (cn s n+1) (bnd s n)∧rowAt w' gV (cn s n) (lvs s Lv n)∧rowAt w' gX (cn s n) (wl s W n)∧w.heap.size≤gB∧w.heap.size≤gV∧w.heap.size≤gX)∧Fr [] w w':=by
 obtain⟨i3,hi3,hz30,hz31,hz32⟩:=info_parts info3;obtain⟨i2,hi2,hz20,hz21,hz22⟩:=info_parts info2;have hn4:n≤400:=by have:=Dec.le_pos s n;have:=hend.1;omega
 obtain⟨nb,hnb⟩:∃nb,nb=(bnd s n).length:=⟨_,rfl⟩;have HNB:=hid hnb;have HNC:=hid (show nb=cn s n+1 by rw[hnb,bnd_length hend];unfold cn;have:=(bix_len s n).2.1;omega);have hnb1:0<nb:=by have:=HNC.out;omega
 have hnb2:nb≤401:=by rw[hnb,bnd_length hend];have:=(bix_len s n).1;omega
 clear hnb;obtain⟨w2,hw2⟩:∃w2,w2=(w.alloc (.cells #[.string s,.int .i64 b,.slice (some ⟨gW,oW,none⟩) n cW,vB] 64)).alloc (.cells #[.slice none 0 0,.slice none 0 0,.slice none 0 0] 146):=⟨_,rfl⟩;have HF2:=hid (show Fr [] w w2 by rw[hw2];exact((Fr.refl [] w).alloc _).alloc _);have HO1:=hid (show w2.heap[w.heap.size]?=some (.cells #[.string s,.int .i64 b,.slice (some ⟨gW,oW,none⟩) n cW,vB] 64 (0,0)) by rw[hw2];exact obj_fr (obj_new w _) ((Fr.refl [] _).alloc _) List.not_mem_nil);have hw2s:w2.heap.size=w.heap.size+2:=by rw[hw2];simp
 have HO2:=hid (show w2.heap[w.heap.size+1]?=some (.cells #[.slice none 0 0,.slice none 0 0,.slice none 0 0] 146 (0,0)) by
  have h:=obj_new (w.alloc (.cells #[.string s,.int .i64 b,.slice (some ⟨gW,oW,none⟩) n cW,vB] 64)) (.cells #[.slice none 0 0,.slice none 0 0,.slice none 0 0] 146)
  rw[World.size_alloc]at h;rw[hw2];exact h)
 have H194:=hid (Cls.fn25_any s w2 (by omega) (tab_fr ht HF2.out));have HW:=hid hW;have HWB:=hid hWb;have HT:=hid hT;have HL:=hid hL;have HE:=hid hend;have k0:=obj_cell HO1.out (i:=0) (v:=.string s) rfl;clear hW hWb hT hL hend ht;go_enter Tryz.func113,Tryz.ntmps113;go_wp2_with fail;rw[←hw2];refine H194.out.mono ?_;rintro e w3 ⟨n',v,hn',rfl,own,hb3⟩;obtain rfl:=Dec.ends_unique HE.out hn';have HF3:=hid (HF2.out.trans (Fr.of_below (S:=[]) hb3));have HO13:=hid (obj_fr HO1.out (Fr.of_below (S:=[]) hb3) List.not_mem_nil);have HO23:=hid (obj_fr HO2.out (Fr.of_below (S:=[]) hb3) List.not_mem_nil);rw[←HNB.out]at own;obtain⟨gB,cB,hv⟩:=owns_shape (by omega) own;subst hv;have HRB:=hid (show rowAt w3 gB nb (bnd s n)from fun j hj=>by rw[own.cellAt j (by omega),ints64_at (by rw[←HNB.out];exact hj)]);have hgB:=(owns_at own).2;have hgB0:=(owns_at own).1;clear own hb3 hn' H194 k0;have hw3s:w.heap.size+2≤w3.heap.size:=by have:=HF3.out.size;have:=obj_lt HO23.out;omega
 obtain⟨cb,hcb⟩:∃cb,cb=w3.heap.size:=⟨_,rfl⟩;have HCB:=hid hcb;clear hcb;go_wp2_with fail;go_loopw [16] (fun ii wr=>∃(i k:Nat) (vV vX:Value),ii=.int .i64 i∧i≤n∧Hid (k=(begs s i).length)∧Hid (wr.heap[w3.heap.size]?=some (.cells #[.slice (some ⟨gB,0,none⟩) nb cB,vV,vX] 146 (0,0)))∧Hid (wr.ownsRow (w3.heap.size+1) 3 1 vV k (ints64 (lvs s Lv i)))∧Hid (wr.ownsRow (w3.heap.size+1) 2 1 vX k (ints64 (wl s W i)))∧Hid (Fr [] w3 wr)) (fun ii _=>n - (intOf ii).toNat)
 case atStart=>exact⟨0,0,.slice none 0 0,.slice none 0 0,rfl,Nat.zero_le _,hid rfl,hid (obj_new w3 _),hid ⟨rfl,.inl ⟨rfl,rfl⟩⟩,hid ⟨rfl,.inl ⟨rfl,rfl⟩⟩,hid ((Fr.refl [] w3).alloc _)⟩
 case round =>
  obtain⟨i,k,vV,vX,rfl,hin,HK,HOC,HV,HX,HF⟩:=hrel;have HFw:=hid (HF3.out.trans HF.out);obtain⟨aV,cV,hvV⟩:=owns_slice HV.out;subst hvV;obtain⟨aX,cX,hvX⟩:=owns_slice HX.out;subst hvX;by_cases hil:i<n
  ·have hiI:(i:Int)<(n:Int):=by omega
   obtain⟨q0,q1,q2⟩:=HT.out i hil;have q0':=HFw.out.cell q0 List.not_mem_nil;have q1':=HFw.out.cell q1 List.not_mem_nil;have q2':=HFw.out.cell q2 List.not_mem_nil;have hkb:k<nb:=by rw[HK.out,HNB.out,bnd_length HE.out];exact begs_lt_bix hin hn
   have hkI:(k:Int)<(nb:Int):=by omega
   have b0:=HF.out.cell (HRB.out k hkb) List.not_mem_nil;have HBG:=hid (by have h:=beg_look (s:=s) HE.out hn hil;rw[←HK.out]at h;exact h);have c0:=obj_cell HOC.out (i:=0) (v:=.slice (some ⟨gB,0,none⟩) nb cB) rfl;have c1:=obj_cell HOC.out (i:=1) (v:=.slice aV k cV) rfl;have c2:=obj_cell HOC.out (i:=2) (v:=.slice aX k cX) rfl;have l0:=HL.out.fr HFw.out List.not_mem_nil i hil;clear q0 q1 q2;generalize nth R i=r0 at *;generalize Dec.pos s i=p0 at *;generalize Dec.pos s (i+1)=p1 at *;generalize nth (bnd s n) k=bk at *;have hgBl:=World.block_lt_of_cell? _ _ b0;have hcbl:=World.block_lt_of_cell? _ _ c0;have hgLl:=World.block_lt_of_cell? _ _ l0;dsimp only at hgBl hcbl hgLl;by_cases hbg:beg s i=true
   ·rw[hbg]at HBG
    have hpe:=HBG.out;go_wp2_with fail;go_quiet (fail);go_wp2_with fail;obtain⟨w5,hw5⟩:∃w5,w5=(wr.alloc (.cells #[.int .i32 r0,.int .i64 ((p0:Nat):Int),.int .i64 ((p1:Nat):Int)] 48)).drewN nq:=⟨_,rfl⟩;have HG5:=hid (show Fr [] wr w5 by rw[hw5];exact((Fr.refl [] wr).alloc _).trans (fr_drewN _ _));rw[←hw5];clear hw5 b0 c0 q0' q1' q2' hgBl hcbl hgLl;have HOC5:=hid (obj_fr HOC.out HG5.out List.not_mem_nil);have l5:=HG5.out.cell l0 List.not_mem_nil;have c15:=obj_cell HOC5.out (i:=1) (v:=.slice aV k cV) rfl;have f15:=obj_froz HOC5.out 1;have HV5:=hid (owns_fr0 HV.out HG5.out);have HX5:=hid (owns_fr0 HX.out HG5.out);have hcb5:=obj_lt HOC5.out;have hgL5:=World.block_lt_of_cell? _ _ l5;have hgLo:=World.block_lt_of_cell? _ _ (HL.out i hil);dsimp only at hgL5 hgLo;have HVG:=hid (fun g (hg:(Value.slice aV k cV).ownBlock=some g)=>(HV.out.lt g hg).1);clear l0 c1 c2;have HLY:=hid (lvs_yes (Lv:=Lv) hbg);generalize nth Lv i=lv at *
    have HKP:=hid (fun(w1' w':World) (hf:Fr [] w5 w1') (hg:w1'.grownBy w' (Value.slice aV k cV).ownBlock)=>show w'.heap[w3.heap.size]?=some (.cells #[.slice (some ⟨gB,0,none⟩) nb cB,.slice aV k cV,.slice aX k cX] 146 (0,0))∧w'.cell? ⟨gL,i,none⟩=some (.int .i64 lv)from
     ⟨(hg.block w3.heap.size (by have:=hf.size;omega) (fun e=>by have:=HVG.out _ e.symm;omega)).trans (obj_fr HOC5.out hf List.not_mem_nil),(World.cell?_of_block (a:=⟨gL,i,none⟩) (hg.block gL (by have:=hf.size;omega) (fun e=>by have:=HVG.out _ e.symm;omega))).trans (hf.cell l5 List.not_mem_nil)⟩)
    go_region_law (refine step_app rfl (.tmp 32) (.tmp 37) 32 rfl (w3.heap.size+1) 3 i3 _ 1 8 Tryz.underlying32 hi3 hz30 hz31 hz32 rfl (by decide) (.slice aV k cV) k (ints64 (lvs s Lv i)) ?q1 ?q2 ⟨w5.heap.size,0,none⟩ 1 1 [.int .i64 lv] ?q3 rfl ?q4 (one_cell _) (by unfold maxLen;omega) (by omega) ?q5 ?_;(case q1=>simp[Act.eval]);(case q2=>exact owns_fr0 HV5.out (((Fr.refl [] w5).drew).alloc _));(case q3=>simp[Act.eval]);(case q4=>exact news_at _ _ _ _ (by simp));(case q5=>simp;omega);intro v' w' hown hgrow;obtain⟨g',c',hv'⟩:=owns_shape (by omega) hown;subst hv';have HV6:=hid hown;have HG6:=hid hgrow;have HO6:=hid (HKP.out _ _ (((Fr.refl [] w5).drew).alloc _) hgrow).1;have c16:=obj_cell HO6.out (i:=1) (v:=.slice aV k cV) rfl;have f16:=obj_froz HO6.out 1;clear hown hgrow)
    all_goals (
     obtain⟨w6,hw6⟩:∃w6,w6=w'.setCell ⟨w3.heap.size,1,none⟩ (.slice (some ⟨g',0,none⟩) (k+1) c'):=⟨_,rfl⟩
     rw[←hw6]
     have HO7:=hid (show w6.heap[w3.heap.size]?=some (.cells #[.slice (some ⟨gB,0,none⟩) nb cB,.slice (some ⟨g',0,none⟩) (k+1) c',.slice aX k cX] 146 (0,0)) by rw[hw6];exact obj_set HO6.out 1 _)
     have HKS:=hid (show ∀(e:TypeId) (_:e≠146) g,some w3.heap.size=some g→∃cs t f,w'.heap[g]?=some (.cells cs t f)∧t≠e from fun e he g hv=>by cases hv;exact⟨_,_,_,HO6.out,fun e=>he e.symm⟩)
     have HV7:=hid (show w6.ownsRow (w3.heap.size+1) 3 1 (.slice (some ⟨g',0,none⟩) (k+1) c') (k+1) (ints64 (lvs s Lv (i+1))) by
      rw[HLY.out,←ints64_snoc,hw6];exact owns_kind HV6.out (grown_set (b:=w3.heap.size)) (HKS.out _ (by decide)))
     have HX7:=hid (show w6.ownsRow (w3.heap.size+1) 2 1 (.slice aX k cX) k (ints64 (wl s W i)) by
      rw[hw6]
      refine owns_kind (owns_kind (owns_fr0 HX5.out (((Fr.refl [] w5).drew).alloc _)) HG6.out (fun g hg=>?_)) (grown_set (b:=w3.heap.size)) (HKS.out _ (by decide))
      obtain⟨cs,t',f',h5,h6⟩:=owns_type (owns_fr0 HV5.out (((Fr.refl [] w5).drew).alloc (.cells #[.int .i64 lv] 3))) hg
      exact⟨cs,t',f',h5,by rw[h6];decide⟩)
     have HF7:=hid (show Fr [] w3 w6 by
      rw[hw6]
      exact(((HF.out.trans HG5.out).trans (((Fr.refl [] w5).drew).alloc (.cells #[.int .i64 lv] 3))).grown HG6.out (fun g hg=>by have:=HVG.out g hg;omega)).set_new (Nat.le_refl _))
     clear hw6 c15 f15 c16 f16 l5 hcb5 hgL5
     have c27:=obj_cell HO7.out (i:=2) (v:=.slice aX k cX) rfl
     have hcb7:=obj_lt HO7.out
     have HXG:=hid (fun g (hg:(Value.slice aX k cX).ownBlock=some g)=>(HX.out.lt g hg).1)
     have HO7a:=hid (fun(o:Obj)=>obj_fr HO7.out ((Fr.refl [] w6).alloc o) List.not_mem_nil)
     have hne7:w3.heap.size≠w6.heap.size:=by omega
     go_wp2_with (at_builtin;refine wpList_append_own _ rfl _ _ 67 rfl (w3.heap.size+1) 2 i2 _ 1 8 Tryz.underlying67 hi2 hz20 hz21 hz22 rfl (by decide) _ k (ints64 (wl s W i)) rfl ?own _ 1 1 [.int .i64 0] rfl rfl (news_at _ _ _ _ (by simp)) (one_cell _) (by unfold maxLen;omega) (by omega) ?szz ?_)
     case own=>exact HX7.out.alloc _
     case szz=>simp;omega
     intro v8 w8 hown8 hgrow8 hnil8
     obtain⟨g8,c8,hv8⟩:=owns_shape (by omega) hown8
     subst hv8
     have HXo:=hid hown8
     have HXg:=hid hgrow8
     have HO8:=hid (show w8.heap[w3.heap.size]?=some (.cells #[.slice (some ⟨gB,0,none⟩) nb cB,.slice (some ⟨g',0,none⟩) (k+1) c',.slice aX k cX] 146 (0,0))from(hgrow8.block w3.heap.size (by simp;omega) (fun e=>by have:=HXG.out _ e.symm;omega)).trans (HO7a.out _))
     have c28:=obj_cell HO8.out (i:=2) (v:=.slice aX k cX) rfl
     have f28:=obj_froz HO8.out 2
     clear hown8 hgrow8 hnil8 c27
     obtain⟨w9,hw9⟩:∃w9,w9=w8.setCell ⟨w3.heap.size,2,none⟩ (.slice (some ⟨g8,0,none⟩) (k+1) c8):=⟨_,rfl⟩
     have HO9:=hid (show w9.heap[w3.heap.size]?=some (.cells #[.slice (some ⟨gB,0,none⟩) nb cB,.slice (some ⟨g',0,none⟩) (k+1) c',.slice (some ⟨g8,0,none⟩) (k+1) c8] 146 (0,0)) by rw[hw9];exact obj_set HO8.out 2 _)
     have HKT:=hid (show ∀(e:TypeId) (_:e≠146) g,some w3.heap.size=some g→∃cs t f,w8.heap[g]?=some (.cells cs t f)∧t≠e from fun e he g hv=>by cases hv;exact⟨_,_,_,HO8.out,fun e=>he e.symm⟩)
     have HX9:=hid (show w9.ownsRow (w3.heap.size+1) 2 1 (.slice (some ⟨g8,0,none⟩) (k+1) c8) (k+1) (ints64 (wl s W i++[0])) by
      rw[←ints64_snoc,hw9];exact owns_kind HXo.out (grown_set (b:=w3.heap.size)) (HKT.out _ (by decide)))
     have HV9:=hid (show w9.ownsRow (w3.heap.size+1) 3 1 (.slice (some ⟨g',0,none⟩) (k+1) c') (k+1) (ints64 (lvs s Lv (i+1))) by
      rw[hw9]
      refine owns_kind (owns_kind (HV7.out.alloc _) HXg.out (fun g hg=>?_)) (grown_set (b:=w3.heap.size)) (HKT.out _ (by decide))
      obtain⟨cs,t',f',h5,h6⟩:=owns_type (HX7.out.alloc (.cells #[.int .i64 0] 2)) hg
      exact⟨cs,t',f',h5,by rw[h6];decide⟩)
     have HF9:=hid (show Fr [] w3 w9 by
      rw[hw9]
      exact((HF7.out.alloc (.cells #[.int .i64 0] 2)).grown HXg.out (fun g hg=>by have:=HXG.out g hg;omega)).set_new (Nat.le_refl _))
     have HW9:=hid hw9
     clear hw9
     go_wp2_with fail
     rw[←HW9.out]
     clear c28 f28
     have HFw9:=hid (HF3.out.trans HF9.out)
     have c29:=obj_cell HO9.out (i:=2) (v:=.slice (some ⟨g8,0,none⟩) (k+1) c8) rfl
     have hkl:k=(wl s W i).length:=by rw[wl_len];exact HK.out
     have HKL:=hid hkl
     clear hkl
     have x9:=HX9.out.cellAt k (by omega)
     rw[ints64_at (by rw[List.length_append,←HKL.out];simp),show nth (wl s W i++[0]) k=0 by rw[HKL.out];simp[nth]]at x9
     have xf9:=HX9.out.frozenAt k
     have m9:=obj_cell (obj_fr HO13.out HF9.out List.not_mem_nil) (i:=2) (v:=.slice (some ⟨gW,oW,none⟩) n cW) rfl
     have ww:=HW.out.fr HFw9.out List.not_mem_nil i hil
     have hwi:=HWB.out i
     have HWY:=hid (wl_yes (W:=W) hbg)
     generalize nth W i=wi at *
     have hk1:((k+1:Nat):Int) - 1=(k:Int):=by omega
     have hk2:(k:Int)+1 - 1=(k:Int):=by omega
     have hkk:(k:Int)<(k:Int)+1:=by omega
     have hwr1:IntKind.i64.wrap (0+wi)=wi:=by rw[IntKind.wrap_i64];omega
     have hwr2:IntKind.i64.wrap wi=wi:=by rw[IntKind.wrap_i64];omega
     go_region
     have hst:=HX9.out.stored k (.int .i64 wi)
     have HXZ:=hid (show(w9.setCell ⟨g8,k,none⟩ (.int .i64 wi)).drew.ownsRow (w3.heap.size+1) 2 1 (.slice (some ⟨g8,0,none⟩) (k+1) c8) (k+1) (ints64 (wl s W (i+1))) by
      rw[HWY.out,←HKL.out,Int.zero_add,←ints64_set];exact owns_fr0 hst.1 ((Fr.refl [] _).drew))
     have HVZ:=hid (show(w9.setCell ⟨g8,k,none⟩ (.int .i64 wi)).drew.ownsRow (w3.heap.size+1) 3 1 (.slice (some ⟨g',0,none⟩) (k+1) c') (k+1) (ints64 (lvs s Lv (i+1))) by
      refine owns_fr0 (owns_kind HV9.out hst.2 (fun g hg=>?_)) ((Fr.refl [] _).drew)
      cases hg
      obtain⟨cs,t',f',h5,h6⟩:=owns_type HX9.out (g:=g8) rfl
      exact⟨cs,t',f',h5,by rw[h6];decide⟩)
     have hg8:=(owns_at HX9.out).1
     have HOZ:=hid (obj_fr HO9.out (((Fr.of_grown hst.2).trans ((Fr.refl [g8] _).drew))) (fun h=>by have:=List.mem_singleton.1 h;omega))
     have HFZ:=hid (show Fr [] w3 (w9.setCell ⟨g8,k,none⟩ (.int .i64 wi)).drew from(HF9.out.set_new (by omega)).drew)
     have HKZ:=hid (show k+1=(begs s (i+1)).length by rw[begs_yes hbg,List.length_append,←HK.out];rfl)
     clear hst
     go_wp2
     go_roundw
     case rel=>exact⟨i+1,k+1,_,_,by go_num,by omega,HKZ,HOZ,HVZ,HXZ,HFZ⟩
     case measure=>simp[intOf];omega)
   ·have hbg':beg s i=false:=by cases h:beg s i with | false=>rfl | true=>exact absurd h hbg
    rw[hbg']at HBG;have hpe:=HBG.out;obtain⟨km,hkm⟩:∃km,k=km+1:=⟨k - 1,by have:=begs_some s (beg_pos hbg');rw[←HK.out]at this;omega⟩;subst hkm;obtain⟨gX,cX',hvX⟩:=owns_shape (by omega) HX.out;cases hvX;go_wp2_with fail;go_quiet (fail);go_wp2_with fail;obtain⟨w9,hw9⟩:∃w9,w9=(wr.alloc (.cells #[.int .i32 r0,.int .i64 ((p0:Nat):Int),.int .i64 ((p1:Nat):Int)] 48)).drewN nq:=⟨_,rfl⟩;have HG9:=hid (show Fr [] wr w9 by rw[hw9];exact((Fr.refl [] wr).alloc _).trans (fr_drewN _ _));rw[←hw9];clear hw9 b0 c0 c1 c2 q0' q1' q2' hgBl hcbl hgLl l0;have HO9:=hid (obj_fr HOC.out HG9.out List.not_mem_nil);have HX9:=hid (owns_fr0 HX.out HG9.out);have HV9:=hid (owns_fr0 HV.out HG9.out);have HF9:=hid (HF.out.trans HG9.out);have HFw9:=hid (HF3.out.trans HF9.out);have c29:=obj_cell HO9.out (i:=2) (v:=.slice (some ⟨gX,0,none⟩) (km+1) cX) rfl;have HKL:=hid (show km+1=(wl s W i).length by rw[wl_len];exact HK.out);have x9:=HX9.out.cellAt km (by omega);rw[ints64_at (by rw[←HKL.out];omega)]at x9;have xf9:=HX9.out.frozenAt km;have m9:=obj_cell (obj_fr HO13.out HF9.out List.not_mem_nil) (i:=2) (v:=.slice (some ⟨gW,oW,none⟩) n cW) rfl;have ww:=HW.out.fr HFw9.out List.not_mem_nil i hil;have hwi:=HWB.out i;have HWN:=hid (show wl s W (i+1)=(wl s W i).set km (nth (wl s W i) km+nth W i) by rw[wl_no hbg',←HKL.out];rfl);have hxb:=wl_bound s W HWB.out i km (by rw[←HK.out];omega);have hxc:nth (wl s W i) km≤429496729600:=by
     have h5:(i:Int) * 1073741824≤400 * 1073741824:=Int.mul_le_mul_of_nonneg_right (by omega) (by omega);omega
    have hxd:=hxb.1;clear hxb;generalize nth W i=wi at *;generalize nth (wl s W i) km=xk at *;have hk1:((km+1:Nat):Int) - 1=(km:Int):=by omega
    have hk2:(km:Int)+1 - 1=(km:Int):=by omega
    have hkk:(km:Int)<(km:Int)+1:=by omega
    have hwr1:IntKind.i64.wrap (xk+wi)=xk+wi:=by rw[IntKind.wrap_i64];omega
    go_region;have hst:=HX9.out.stored km (.int .i64 (xk+wi))
    have HXZ:=hid (show(w9.setCell ⟨gX,km,none⟩ (.int .i64 (xk+wi))).drew.ownsRow (w3.heap.size+1) 2 1 (.slice (some ⟨gX,0,none⟩) (km+1) cX) (km+1) (ints64 (wl s W (i+1))) by
     rw[HWN.out,←ints64_set];exact owns_fr0 hst.1 ((Fr.refl [] _).drew))
    have HVZ:=hid (show(w9.setCell ⟨gX,km,none⟩ (.int .i64 (xk+wi))).drew.ownsRow (w3.heap.size+1) 3 1 (.slice aV (km+1) cV) (km+1) (ints64 (lvs s Lv (i+1))) by
     rw[lvs_no hbg']
     refine owns_fr0 (owns_kind HV9.out hst.2 (fun g hg=>?_)) ((Fr.refl [] _).drew)
     cases hg
     obtain⟨cs,t',f',h5,h6⟩:=owns_type HX9.out (g:=gX) rfl
     exact⟨cs,t',f',h5,by rw[h6];decide⟩)
    have hg8:=(owns_at HX9.out).1;have HOZ:=hid (obj_fr HO9.out (((Fr.of_grown hst.2).trans ((Fr.refl [gX] _).drew))) (fun h=>by have:=List.mem_singleton.1 h;omega));have HFZ:=hid (show Fr [] w3 (w9.setCell ⟨gX,km,none⟩ (.int .i64 (xk+wi))).drew from(HF9.out.set_new (by omega)).drew);have HKZ:=hid (show km+1=(begs s (i+1)).length by rw[begs_no hbg',←HK.out]);clear hst;go_wp2;go_roundw
    case rel=>exact⟨i+1,km+1,_,_,by go_num,by omega,HKZ,HOZ,HVZ,HXZ,HFZ⟩
    case measure=>simp[intOf];omega
  ·obtain rfl:i=n:=by omega
   have hiI:¬(i:Int)<(i:Int):=by omega
   have HOR:=hid (obj_fr HO23.out HF.out List.not_mem_nil);have c0:=obj_cell HOC.out (i:=0) (v:=.slice (some ⟨gB,0,none⟩) nb cB) rfl;have c1:=obj_cell HOC.out (i:=1) (v:=.slice aV k cV) rfl;have c2:=obj_cell HOC.out (i:=2) (v:=.slice aX k cX) rfl;have r0:=obj_cell HOR.out (i:=0) (v:=.slice none 0 0) rfl;have r1:=obj_cell HOR.out (i:=1) (v:=.slice none 0 0) rfl;have r2:=obj_cell HOR.out (i:=2) (v:=.slice none 0 0) rfl;have rf0:=obj_froz HOR.out 0;have rf1:=obj_froz HOR.out 1;have rf2:=obj_froz HOR.out 2;have hne:w3.heap.size≠w.heap.size+1:=by omega
   have HKC:=hid (show k=cn s i by rw[cn_begs hn];exact HK.out);have hk0:0<k:=by have:=begs_some s hn;rw[←HK.out]at this;exact this
   obtain⟨gV,cV',hvV⟩:=owns_shape hk0 HV.out;cases hvV;obtain⟨gX,cX',hvX⟩:=owns_shape hk0 HX.out;cases hvX;have HEND:=hid (show(((wr.setCell ⟨w.heap.size+1,0,none⟩ (.slice (some ⟨gB,0,none⟩) nb cB)).setCell ⟨w.heap.size+1,1,none⟩ (.slice (some ⟨gV,0,none⟩) k cV)).setCell ⟨w.heap.size+1,2,none⟩ (.slice (some ⟨gX,0,none⟩) k cX)).heap[w.heap.size+1]?=some (.cells #[.slice (some ⟨gB,0,none⟩) nb cB,.slice (some ⟨gV,0,none⟩) k cV,.slice (some ⟨gX,0,none⟩) k cX] 146 (0,0))from obj_set (obj_set (obj_set HOR.out 0 _) 1 _) 2 _);have HFE:=hid (show Fr [w.heap.size+1] wr (((wr.setCell ⟨w.heap.size+1,0,none⟩ (.slice (some ⟨gB,0,none⟩) nb cB)).setCell ⟨w.heap.size+1,1,none⟩ (.slice (some ⟨gV,0,none⟩) k cV)).setCell ⟨w.heap.size+1,2,none⟩ (.slice (some ⟨gX,0,none⟩) k cX))from((((Fr.refl [w.heap.size+1] wr).set (List.mem_singleton.2 rfl) _).set (List.mem_singleton.2 rfl) _).set (List.mem_singleton.2 rfl) _));go_wp2_with fail;have hgBn:gB≠w.heap.size+1:=by have:=hgB0;omega
   refine bodyPost_ret (results_cell_row (t:=146) (fr:=(0,0)) rfl _ _ (w.heap.size+1) _ _ rfl HEND.out Tryz.underlying146 rfl (by kernel_rfl)) rfl ?_;have hgV:=(owns_at HV.out).1;have hgX:=(owns_at HX.out).1;refine⟨_,rfl,hid ⟨gB,cB,gV,cV,gX,⟨cX,by rw[←HKC.out,show k+1=nb by have:=HNC.out;have:=HKC.out;omega]⟩,?_,?_,?_,by omega,by omega,by omega⟩,(((HFw.out.mono (fun _ h _=>absurd h List.not_mem_nil):Fr [w.heap.size+1] w wr).trans HFE.out).mono (fun x hx hlt=>by have:=List.mem_singleton.1 hx;omega))⟩
   ·rw[←HNC.out];exact(HRB.out.fr HF.out List.not_mem_nil).fr HFE.out (fun h=>hgBn (List.mem_singleton.1 h))
   ·intro j hj
    refine HFE.out.cell ?_ (fun h=>by have:=List.mem_singleton.1 h;omega);rw[HV.out.cellAt j (by have:=HKC.out;omega),ints64_at (by rw[lvs_len,←HK.out];have:=HKC.out;omega)]
   ·intro j hj
    refine HFE.out.cell ?_ (fun h=>by have:=List.mem_singleton.1 h;omega);rw[HX.out.cellAt j (by have:=HKC.out;omega),ints64_at (by rw[wl_len,←HK.out];have:=HKC.out;omega)]
theorem trails_any (c:Int)(w:World) :
 Calls Tryz.prog 146 #[.int .i64 c] w fun e w'=>e=.returned (.bool (trail c))∧w'=w:=by
 have HT:=hid (show trail c=((c == 12) || ((ini c || c == 22) || gone c)) by unfold trail;cases (c == 12) <;> cases ini c <;> cases (c == 22) <;> cases gone c <;> rfl);obtain⟨R,hR⟩:∃R,R=trail c:=⟨_,rfl⟩;rw[←hR]at HT ⊢;have H1:=hid (fun X:World=>fn89_any c X);have H2:=hid (fun X:World=>fn76_any c X);clear hR;generalize (ini c || c == 22)=p at *;generalize gone c=q at *;by_cases h:c=12
 ·have hb:(c == 12)=true:=by simp[h]
  rw[hb]at HT;go_enter Tryz.func146,Tryz.ntmps146;go_wp2_with fail;go_ret;exact⟨by rw[HT.out];rfl,rfl⟩
 ·have hb:(c == 12)=false:=by simp[h]
  rw[hb]at HT;cases p
  ·go_enter Tryz.func146,Tryz.ntmps146
   go_wp2_with (first | (go_at_call 198;refine(H1.out _).mono ?_;rintro e w1 ⟨rfl,rfl⟩) | (go_at_call 196;refine(H2.out _).mono ?_;rintro e w1 ⟨rfl,rfl⟩));go_ret;exact⟨by rw[HT.out];simp,rfl⟩
  ·go_enter Tryz.func146,Tryz.ntmps146
   go_wp2_with (first | (go_at_call 198;refine(H1.out _).mono ?_;rintro e w1 ⟨rfl,rfl⟩) | (go_at_call 196;refine(H2.out _).mono ?_;rintro e w1 ⟨rfl,rfl⟩));go_ret;exact⟨by rw[HT.out];simp,rfl⟩
theorem bnd_lt {s:ByteArray}{n:Nat}(h:Dec.Ends s n){i j:Nat}(hij:i<j)(hj:j<(bix s n).length):nth (bnd s n) i<nth (bnd s n) j:=by
 rw[bnd_nth h (by omega),bnd_nth h hj];have:=Dec.pos_mono s _ _ (nix_lt (bix_sorted s n) hij hj);omega
theorem nth_mem {l:List Int}{k:Nat}(h:k<l.length):nth l k∈l:=by
 rw[nth,List.getElem?_eq_getElem h];exact List.getElem_mem _
theorem cidx_bnd {s:ByteArray}{n:Nat}(h:Dec.Ends s n){k:Nat}(hk:k<(bix s n).length):cidx (bnd s n) (nth (bnd s n) k)=k:=by
 have hl:=bnd_length h;obtain⟨h1,h2⟩:=cidx_at (rises_bnd h) (x:=nth (bnd s n) k) (by simpa using nth_mem (l:=bnd s n) (by omega));rw[←nth_getD]at h2
 rcases Nat.lt_trichotomy (cidx (bnd s n) (nth (bnd s n) k)) k with h3 | h3 | h3
 ·have:=bnd_lt h h3 hk;omega
 ·exact h3
 ·have:=bnd_lt h h3 (by omega);omega
def edL (s:ByteArray)(Br:List Int):List Int:=0 :: (Br++[((s.size:Nat):Int)])
theorem edL_len (s:ByteArray)(Br:List Int):(edL s Br).length=Br.length+2:=by simp[edL]
theorem edL_at {s:ByteArray}{n:Nat}(h:Dec.Ends s n){Br:List Int}(E:Edges s n Br){k:Nat}(hk:k≤Br.length+1):nth (edL s Br) k=nth (bnd s n) (eiOf s n Br k):=by
 have hc:eiOf s n Br k<(bix s n).length:=by
  have h8:=E.le k hk;have h9:=(bix_len s n).2.1;have:cn s n<(bix s n).length:=by { unfold cn;omega };unfold eiOf;omega
 rw[bnd_nth h hc]
 rcases Nat.eq_zero_or_pos k with h0 | h0
 ·subst h0
  rw[show eiOf s n Br 0=0 from E.e0,bix_zero];simp[nth,edL,Dec.pos]
 ·obtain⟨j,rfl⟩:∃j,k=j+1:=⟨k - 1,by omega⟩
  rcases Nat.lt_or_eq_of_le (show j≤Br.length by omega)with h1 | h1
  ·rw[show((Dec.pos s (nix (bix s n) (eiOf s n Br (j+1))):Nat):Int)=nth Br j from E.at_ j h1]
   simp[nth,edL,List.getElem?_append_left h1]
  ·subst h1
   rw[show eiOf s n Br (Br.length+1)=cn s n from E.eN,bix_last];simp[nth,edL];exact congrArg Int.ofNat h.1.symm
theorem edL_cidx {s:ByteArray}{n:Nat}(h:Dec.Ends s n){Br:List Int}(E:Edges s n Br){k:Nat}(hk:k≤Br.length+1):cidx (bnd s n) (nth (edL s Br) k)=eiOf s n Br k:=by
 rw[edL_at h E hk];refine cidx_bnd h ?_;have h8:=E.le k hk;have h9:=(bix_len s n).2.1;have:cn s n<(bix s n).length:=by { unfold cn;omega };unfold eiOf;omega
theorem xsum_congr {f g:Nat→Int}{o:List Nat}:∀k,(∀j,j<k→f (nix o j)=g (nix o j))→xsum f o k=xsum g o k
 | 0,_=>rfl
 | k+1,h=>by rw[xsum,xsum,xsum_congr k (fun j hj=>h j (by omega)),h k (by omega)]
theorem xs_congr {f g:Nat→Int}{o:List Nat}{k:Nat}(h:∀j,j<k→f (nix o j)=g (nix o j)):xs f o k=xs g o k:=by
 rw[xs,xs];refine List.map_congr_left (fun j hj=>?_);exact xsum_congr j (fun i hi=>h i (by have:=List.mem_range.1 hj;omega))
theorem lines_same {s:ByteArray}{n:Nat}(h:Dec.Ends s n)(hn:0<n){Br:List Int}(E:Edges s n Br)(bs:Int)(W Lv:List Int)(hL:∀i,i<n→nth Lv i=evOf s n bs Br i):lnsP (bnd s n) (lvs s Lv n) (wl s W n) (edL s Br) (Br.length+1)=lns s n bs W Br (Br.length+1):=by
 rw[lnsP,lns];refine List.map_congr_left (fun j hj=>?_);have hj:=List.mem_range.1 hj;have hb:=E.le (j+1) (by omega);have hab:=E.mono j (j+1) (by omega) (by omega);have hlv:∀k,k<cn s n→nth (lvs s Lv n) k=evOf s n bs Br (nix (bix s n) k):=fun k hk=>by
  have hk':k<(begs s n).length:=by rw[←cn_begs hn];exact hk
  rw[lvs_at hk',←bix_at hn hk',hL];have:=nix_lt (bix_sorted s n) hk (by have:=(bix_len s n).2.1;unfold cn;omega);rw[bix_last]at this;exact this
 unfold lnP lnOf;rw[edL_cidx h E (show j≤Br.length+1 by omega),edL_cidx h E (show j+1≤Br.length+1 by omega)];have hlen:=(bix_len s n).2.1;have hcn:cn s n<(bix s n).length:=by unfold cn;omega
 have ho:ordD (fun t=>nth (lvs s Lv n) (eiOf s n Br j+t)) (eiOf s n Br (j+1) - eiOf s n Br j)=ordD (fun t=>evOf s n bs Br (nix (bix s n) (eiOf s n Br j+t))) (eiOf s n Br (j+1) - eiOf s n Br j) :=
  ordD_congr (fun t ht=>hlv _ (by unfold eiOf at *;omega))
 dsimp only;rw[ho,edL_at h E (show j≤Br.length+1 by omega),edL_at h E (show j+1≤Br.length+1 by omega),bnd_nth h (by unfold eiOf;omega),bnd_nth h (by unfold eiOf;omega)]
 congr 1
 refine xs_congr (fun t ht=>?_);have ht':t<(ordD (fun t=>evOf s n bs Br (nix (bix s n) (eiOf s n Br j+t))) (eiOf s n Br (j+1) - eiOf s n Br j)).length:=by rw[ordD_len];exact ht
 rw[nix_map ht'];have hlt:=ordD_lt _ _ _ (nix_mem ht');exact wl_cw hn W (by unfold eiOf at *;omega)
end Go.Proofs.YtnakejhohdbfdacGreatDoor

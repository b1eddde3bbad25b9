import Derived.Test.YtnakejhohdbfdaaGreatDoorXPrY
import Derived.Test.YtnakejhohdbfdaaGreatDoorXPrK
import Derived.Test.YtnakejhohdbfdaaGreatDoorXBrE
import Derived.Test.YtnakejhohdbfdaaGreatDoorXLdD
import Derived.Test.YtnakejhohdbfdaaGreatDoorXLdG
import Derived.Test.YtnakejhohdbfdaaGreatDoorXPlD
import Derived.Test.YtnakejhohdbfdaaGreatDoorXRsO
import Derived.Test.YtnakejhohdbfdaaGreatDoorXPlB
namespace Go.Proofs.YtnakejhohdbfdaaGreatDoor
open Go.RowKit Lev Go.Maps
theorem nd_scan {s:Sq}{C:List Int}(hI:inj s.I)(hw:within s.I C)(ho:s.own=0∨s.own=1)(hb:s.bef=0∨s.bef=1)(h:Among S3 s.I C s.I.length):scan s.I isNd (neAct s) C=neutral s C:=by
 have key:∀k,k≤s.I.length→scanTo s.I isNd (neAct s) k (0,C)=scanTo s.I isNe (neAct s) k (0,C):=by
  intro k
  induction k with
  | zero=>intro _;rfl
  | succ k ih =>
    intro hk;have hv:=(ne_inv hI hw ho hb h k (by omega)).all k (by omega);rw[scanTo,scanTo,ih (by omega),scanStep,scanStep,nd_ne hv]
 rw[scan,neutral,scan,key _ (Nat.le_refl _)]
theorem base_01 {K:List Int}{b:Int}(hb:b=0∨b=1∨b=2):baseOf K b=0∨baseOf K b=1:=by
 unfold baseOf;split
 ·split
  ·exact .inr rfl
  ·exact .inl rfl
 ·omega
structure SqOk (R K L C0:List Int)(base:Int)(ss:List (List Nat))(i:Nat):Prop where
 ne:run ss i≠[]
 sm:(run ss i).length≤K.length
 lt:∀x∈run ss i,x<K.length
 inj:inj (run ss i)
 w:within (run ss i) (rulesTo R K L base ss i C0)
 s0:Among S0 (run ss i) (rulesTo R K L base ss i C0) (run ss i).length
 g:∀x,0≤nth (growAll R K L base ss C0 i) x∧nth (growAll R K L base ss C0 i) x≤1000
theorem lift_le (l c:Int):0≤lift l c∧lift l c≤2:=by
 unfold lift;split
 ·omega
 ·split <;> omega
theorem sq_ok (R K:List Int)(base:Int)(hb:base=0∨base=1)(hK:∀i,0≤nth K i∧nth K i≤22)(i:Nat)(hi:i<(seqs K (runsTo K (embTo K base K.length).L K.length)).length) :
 SqOk R K (embTo K base K.length).L (embTo K base K.length).C base (seqs K (runsTo K (embTo K base K.length).L K.length)) i:=by
 have he:=emb_inv K base hb K.length (Nat.le_refl _);have hc:=emb_C K base hb K.length (Nat.le_refl _);obtain⟨ho,hng⟩:=ss_ok K base hb;have hrun:=run_inv K (embTo K base K.length).L K.length;have hrok:=runs_ok K (embTo K base K.length).L;have hal:=all_level hrun hrok (fun a b h1 h2=>follow_level hb h1 h2) _ (Nat.le_refl _);have hsh:=all_short (K:=K) (rs:=runsTo K (embTo K base K.length).L K.length) _ (Nat.le_refl _);have hfl:=flat_le hrun (k:=(runsTo K (embTo K base K.length).L K.length).length);rw[dv_seqs hrok]at hal hsh;generalize embTo K base K.length=e at *;generalize runsTo K e.L K.length=rs at *;generalize seqs K rs=ss at *;have hget:ss[i]?=some (run ss i):=by rw[run_get hi];exact List.getElem?_eq_getElem hi
 have hout:∀y,y∈run ss i→nth (rulesTo R K e.L base ss i e.C) y=nth e.C y:=fun y hy=>by
  rw[rulesTo_out 0 i (Nat.zero_le _) (fun t _ h2 h3=>by have:=ho.ap t i y (by omega) hi h3 hy;omega)];rfl
 have hlen:(rulesTo R K e.L base ss i e.C).length=e.C.length:=rulesTo_len (fun _ C=>rules_len R K _ C) i;refine⟨(hal i _ hget).1,by have:=hsh i _ hget;omega,fun x hx=>ho.lt i x hi hx,sorted_inj (ho.so i hi),fun k hk=>?_,fun j hj=>?_,fun x=>?_⟩
 ·rw[hlen,he.len.2,nix_of_get hk];exact ho.lt i _ hi (List.getElem_mem hk)
 ·unfold cl
  rw[nix_of_get hj,hout _ (List.getElem_mem hj)];exact S0_of hc hK (hng i _ hi (List.getElem_mem hj))
 ·obtain⟨g1,g2⟩:=growAll_at (R:=R) (base:=base) (C0:=e.C) ho he.len.1 i (by omega)
  have hs:=he.small x;by_cases hx:∃t,t<i∧x∈run ss t
  ·obtain⟨t,ht,hm⟩:=hx
   rw[g1 t x ht hm];have:=lift_le (nth e.L x) (nth (rulesTo R K e.L base ss ss.length e.C) x);omega
  ·rw[g2 x (fun t ht hm=>hx ⟨t,ht,hm⟩)];omega
theorem SB.seq {w:World}{B S:Nat}{v:Value}{q:UH}{K L:List Int}{base:Int}{I:List Nat}(h:SB w B S v I (nth L (firstN I)) (seqOf K L base I).bef (seqOf K L base I).aft q.U)(hU:q.U<B)(hne:I≠[])(hlt:∀x∈I,x<q.n)(hsm:I.length≤1000000):∃Q cQ,B≤Q∧SS w q S Q cQ (seqOf K L base I) (nth L (firstN I)):=by
 obtain⟨Q,cQ,hv⟩:=owns_shape (List.length_pos_iff.2 hne) h.r;subst hv;have hat:=owns_at h.r;have hle:=h.le;refine⟨Q,cQ,hat.1,h.cell rfl,h.cell rfl,h.cell rfl,h.cell rfl,fun k hk=>?_,fun k hk=>?_,⟨by omega,by omega⟩,hsm,owns_cap' h.r⟩
 ·rw[h.r.cellAt k (by rw[Nat.mul_one];exact hk)];exact ptrs_at q.U I k hk
 ·rw[show nix (seqOf K L base I).I k=I[k]'hk from nix_of_get hk];exact hlt _ (List.getElem_mem _)
end Go.Proofs.YtnakejhohdbfdaaGreatDoor
namespace Go.Proofs.YtnakejhohdbfdaaGreatDoor
open Go.RowKit Lev Go.Maps
theorem map_no_cell {w:World}{b n:Nat}{D:DataW Unit}(h:w.ownsMap Tryz.prog 3 (plainElem Tryz.prog 3) b n D)(i:Nat):w.cell? ⟨b,i,none⟩=none:=by
 obtain⟨es,clock,hb,_⟩:=h;simp[World.cell?,hb]
theorem QM.setLv {w:World}{q:UH}{P cU mb n:Nat}{lv:Int}{D:DataW Unit}(h:QM w q P cU mb n lv D)(x:Int):QM (w.setCell ⟨P,2,none⟩ (.int .i64 x)) q P cU mb n x D:=by
 have other:∀ {o:Nat} {y:Value},o≠2→w.cell? ⟨P,o,none⟩=some y→(w.setCell ⟨P,2,none⟩ (.int .i64 x)).cell? ⟨P,o,none⟩=some y:=fun ho hx=>by
  rw[World.cell?_setCell_other _ _ _ _ (fun e=>ho (by cases e;rfl))];exact hx
 have hne:mb ∉ [P]:=fun hm=>by
  have h1:=map_no_cell h.m 2;rw[List.mem_singleton.1 hm,h.s.c2]at h1;cases h1
 exact⟨⟨other (by decide) h.s.c0,World.cell?_setCell_same _ _ _ h.s.c2,h.s.ne⟩,other (by decide) h.c1,map3_fr h.m (fr_set1 w P 2 _) hne,h.i⟩
set_option maxRecDepth 100000 in
set_option maxHeartbeats 8000000 in
theorem of_any (s:ByteArray)(b:Int)(w:World)(hs:s.size≤1000000)(hb:b=0∨b=1∨b=2)(h3:Cls.TabAt w 3 Tabs.lowTab)(h4:Cls.TabAt w 4 Tabs.highTab)(n:Nat)(hend:Dec.Ends s n)(hn0:0<n)(hn:n≤1000000)(hK:∀i,0≤nth (Kl s n) i∧nth (Kl s n) i≤22) :
 Calls Tryz.prog 38 #[.string s,.int .i64 b] w fun e w'=>∃g,e=.returned (.tuple #[.slice (some ⟨g,0,none⟩) n n,.int .i64 (baseOf (Kl s n) b)])∧rowAt w' g n (levels (Rl s n) (Kl s n) (baseOf (Kl s n) b))∧Fr [] w w'∧w.heap.size≤g∧soft w' g n:=by
 have H65:=hid (fn20_any s w hs h3 h4 n hend hn0);have HB:=hid (base_01 (K:=Kl s n) hb);have HKL:=hid (Kl_len s n);have HLD:=hid (levels_dev (Rl s n) (Kl s n) (baseOf (Kl s n) b) (base_01 hb) hK);have HSQ:=hid (sq_ok (Rl s n) (Kl s n) (baseOf (Kl s n) b) (base_01 hb) hK);have HEI:=hid (emb_inv (Kl s n) (baseOf (Kl s n) b) (base_01 hb) (Kl s n).length (Nat.le_refl _));have HFL:=hid (fun(a c:List Nat) h1 h2=>follow_level (K:=Kl s n) (base:=baseOf (Kl s n) b) (base_01 hb) (a:=a) (b:=c) h1 h2);have H66:=hid (fun(U P cU mb:Nat) (D:DataW Unit) (Y:World) hu hq=>fn21_any ⟨U,n,Rl s n,Kl s n⟩ (Kl s n) (List.replicate (Kl s n).length 0) P cU mb n 0 D b Y hu hq (Kl_len s n) hn hb);obtain⟨lv,hlv⟩:∃lv,lv=baseOf (Kl s n) b:=⟨_,rfl⟩;dsimp only at H66;rw[←hlv]at HB HLD HSQ HEI HFL H66;rw[←hlv];rw[HKL.out]at HLD HSQ HEI HFL;generalize Rl s n=R at *;generalize Kl s n=K at *;generalize levels R K lv=Z at *;clear hlv hb h3 h4 hend hs hK;go_enter Tryz.func38,Tryz.ntmps38;go_wp2_with fail;refine H65.out.mono ?_;rintro e w1 ⟨P,U,cU,mb,D,rfl,hu1,hq1,hmU,hf1,hfz,hPw,hUw⟩;have H66b:=hid (H66.out U P cU mb D w1 hu1 hq1);have HU1:=hid hu1;have HQ1:=hid hq1;have HF1:=hid hf1;have c2:=hq1.s.c2;have hPU:=hq1.s.ne;have hml:=hq1.m.lt;have hPl:=World.block_lt_of_cell? _ _ c2;have hUl:U<w1.heap.size:=World.block_lt_of_cell? _ _ (hu1.r 0 hn0);dsimp only at hPU hPl;clear hu1 hq1 hf1 H65 H66;go_wp2_with fail;refine H66b.out.mono ?_;rintro e w1 ⟨rfl,rfl⟩;have HQ2:=hid (HQ1.out.setLv lv);have HU2:=hid (HU1.out.fr (fr_set1 w1 P 2 (.int .i64 lv)) (fun hm=>hPU (List.mem_singleton.1 hm).symm));have HF2:=hid (show Fr [] w (w1.setCell ⟨P,2,none⟩ (.int .i64 lv))from HF1.out.behind (fr_set1 w1 P 2 _) (fun k hk=>by rw[List.mem_singleton.1 hk];exact hPw));have H67:=hid (fn22p_any ⟨U,n,R,K⟩ P cU mb n lv D _ HU2.out HQ2.out hmU HKL.out hn hn0 HB.out);clear H66b;go_wp2_with fail;refine H67.out.mono ?_;rintro e w3 ⟨rfl,hu3,hf3⟩;have HU3:=hid hu3;have HF3:=hid hf3;have HQ3:=hid (HQ2.out.fr hf3 (fun hm=>hPU (List.mem_singleton.1 hm)) (fun hm=>hmU (List.mem_singleton.1 hm)));have H68:=hid (seqs_any ⟨U,n,R,K⟩ (embTo K lv n).C (embTo K lv n).L P cU mb n lv D w3 hu3 HQ3.out HKL.out hn hn0 (fun i=>(HEI.out.small i).1) (by dsimp only;rw[HKL.out];exact HFL.out));dsimp only at H68;rw[HKL.out]at H68;generalize hE:embTo K lv n=E at *;clear hu3 hf3 H67 hE;have HCNT:=hid (show(seqs K (runsTo K E.L n)).length≤n by have h5:=runs_ok K E.L;have h6:=runs_short K E.L K.length;rw[←dv_seqs (by rw[HKL.out]at h5;exact h5)];have h7:=all_count K (runsTo K E.L n) (runsTo K E.L n).length;rw[HKL.out]at h6;omega);generalize seqs K (runsTo K E.L n)=ss at *;go_wp2_with fail;refine H68.out.mono ?_;rintro e w4 ⟨v,gs,B,rfl,hal,hgs,hB,hf4⟩;have hlen:=gs_len hgs;obtain⟨m,hm⟩:∃m,m=gs.length:=⟨_,rfl⟩;obtain⟨a4,c4,hv4⟩:=owns_slice hal.own;rw[←hm]at hv4;subst hv4;have HA:=hid hal;have HG:=hid hgs;have HF4:=hid hf4;have HM:=hid hm;have HML:=hid (hm.trans hlen);have hUB:U<B:=by have h5:=HF3.out.size;have h6:=HF2.out.size;simp at h5;omega
 have hmb:m≤1000000:=by
  have h5:=HCNT.out;rw[←hlen,←hm]at h5;omega
 clear hal hgs hf4 hm hlen H68;go_wp2;go_loopw [22] (fun a wr=>∃(k:Nat),a=.int .i64 k∧k≤m∧Hid (US wr ⟨U,n,R,K⟩ (rulesTo R K E.L lv ss k E.C) (growAll R K E.L lv ss E.C k))∧Hid (Fr [U] w4 wr)) (fun a _=>m - (Go.RowKit.intOf a).toNat)
 case atStart=>exact⟨0,rfl,Nat.zero_le _,hid (HU3.out.fr HF4.out List.not_mem_nil),hid (Fr.refl _ _)⟩
 case round =>
  obtain⟨k,rfl,hk,HUW,HF⟩:=hrel;by_cases hlt:k<m
  ·have hown:=HA.out.own
   rw[←HM.out]at hown;obtain⟨g4,c5,hsh⟩:=owns_shape (by omega) hown;cases hsh;have hkg:k<gs.length:=by rw[←HM.out];exact hlt
   obtain⟨d,hd⟩:∃d,gs[k]?=some d:=⟨_,List.getElem?_eq_getElem hkg⟩;obtain⟨S,v1,I,lv1,bef1,aft1⟩:=d;have hgm:=HG.out.2 _ (List.mem_of_getElem? hd);dsimp only at hgm;obtain⟨rfl,rfl,rfl⟩:=hgm;have hI:run ss k=I:=by have h5:=gs_at HG.out hd;simp[run,h5]
   have hsb:=HA.out.sb k _ hd;dsimp only at hsb;have hg4:=(owns_at hown).1;have p1:=HF.out.cell (HA.out.cell hd HM.out) (fun hx=>by have:=List.mem_singleton.1 hx;omega);dsimp only at p1;have hSl:=hsb.le;have hsb2:=hsb.fr HF.out (fun hx=>by have:=List.mem_singleton.1 hx;omega) (fun g hg hx=>by have h5:=(hsb.r.lt g hg).1;have:=List.mem_singleton.1 hx;omega);have HSO:=hid (HSQ.out k (by rw[←HML.out];exact hlt));have HRN:=hid (show rulesTo R K E.L lv ss (k+1) E.C=rules R K (seqOf K E.L lv (run ss k)) (rulesTo R K E.L lv ss k E.C)from rfl);have HGN:=hid (show growAll R K E.L lv ss E.C (k+1)=growTo (run ss k) (nth E.L (firstN (run ss k))) (rulesTo R K E.L lv ss (k+1) E.C) (run ss k).length (growAll R K E.L lv ss E.C k)from rfl);rw[hI]at HRN HGN;have sne:=HSO.out.ne;have ssm:=HSO.out.sm;have slt:=HSO.out.lt;have sinj:=HSO.out.inj;have sw:=HSO.out.w;have ss0:=HSO.out.s0;have sg:=HSO.out.g;rw[hI]at sne ssm slt sinj sw ss0;rw[HKL.out]at ssm slt;obtain⟨Q,cQ,hBQ,hss⟩:=SB.seq (q:=⟨U,n,R,K⟩) hsb2 hUB sne slt (by omega);obtain⟨sq,hsq⟩:∃sq,sq=seqOf K E.L lv I:=⟨_,rfl⟩;have hsqI:sq.I=I:=by rw[hsq];rfl
   have hsqb:sq.bef=0∨sq.bef=1:=by rw[hsq];exact way_01 _
   have hsqo:sq.own=way (nth E.L (firstN I)):=by rw[hsq];rfl
   have hsqo1:sq.own=0∨sq.own=1:=by rw[hsqo];exact way_01 _
   have hl1:=(HEI.out.small (firstN I)).1;rw[←hsq]at hss HRN;rw[←hsqI]at sne sinj sw ss0 HGN;rw[hsqI]at HGN;have h0:0<sq.I.length:=List.length_pos_iff.2 sne;generalize nth E.L (firstN I)=lv1 at *;generalize rulesTo R K E.L lv ss k E.C=C1 at *;generalize growAll R K E.L lv ss E.C k=L1 at *;obtain⟨C2,hC2⟩:∃C2,C2=rulesTo R K E.L lv ss (k+1) E.C:=⟨_,rfl⟩;rw[←hC2]at HRN HGN;have HCE:=hid hC2;have HSS:=hid (fun X (hf:Fr [U] wr X)=>hss.fr hf (fun hx=>hss.ne.1 (List.mem_singleton.1 hx)) (fun hx=>hss.ne.2 (List.mem_singleton.1 hx)));have hw5:=weak_S (K:=K) hsqb sw ss0;have H69:=hid (fn24_any ⟨U,n,R,K⟩ C1 L1 S Q cQ sq lv1 wr HUW.out hss hsqb ss0 (fun C X hu hs=>term_any ⟨U,n,R,K⟩ C L1 S Q cQ sq lv1 X hu hs h0));have hkI:(k:Int)<(m:Int):=by omega
   have HC2:=hid (show C2=neutral sq (brackets R K sq (weak K sq C1))from HRN.out);have HI:=hid hsqI;have HNS:=hid (fun h=>nd_scan (s:=sq) (C:=brackets R K sq (weak K sq C1)) sinj h hsqo1 hsqb (br_S hsqb hsqo1 _ hw5.1 _));have HBL:=hid (show(brackets R K sq (weak K sq C1)).length=C1.length by rw[brackets,br_len];exact hw5.2);have HSW:=hid (show within sq.I C1 from sw);clear hsb hsb2 hown hd hI hss sw ss0 hw5 HRN HSO sne hsq hsqI slt hC2;go_wp2_with fail;refine H69.out.mono ?_;rintro e w5 ⟨rfl,hu5,hf5⟩;have H70:=hid (brk_any ⟨U,n,R,K⟩ _ L1 S Q cQ sq lv1 w5 hu5 (HSS.out w5 hf5) h0 hl1 hsqo hsqb);have HF5:=hid hf5;clear hu5 hf5 H69;go_wp2_with fail;refine H70.out.mono ?_;rintro e w6 ⟨rfl,hu6,hf6⟩;have HF6:=hid (HF5.out.trans hf6);have H71:=hid (neut_any ⟨U,n,R,K⟩ _ L1 S Q cQ sq lv1 w6 hu6 (HSS.out w6 HF6.out) h0 hl1 hsqo);dsimp only at H71;rw[HNS.out (HSW.out.of HBL.out),←HC2.out]at H71;clear hu6 hf6 H70;go_wp2_with fail;refine H71.out.mono ?_;rintro e w7 ⟨rfl,hu7,hf7⟩;have HF7:=hid (HF6.out.trans hf7);have H72:=hid (fn27_any ⟨U,n,R,K⟩ C2 L1 S Q cQ sq lv1 w7 hu7 (HSS.out w7 HF7.out) hl1 sinj sg);clear hu7 hf7 H71;go_wp2_with fail;refine H72.out.mono ?_;rintro e w8 ⟨rfl,hu8,hf8⟩;have HU8:=hid (show US w8 ⟨U,n,R,K⟩ C2 (growAll R K E.L lv ss E.C (k+1)) by rw[HGN.out,←HI.out];exact hu8);have HF8:=hid (HF.out.trans (HF7.out.trans hf8));clear hu8 hf8 H72;go_wp2;go_roundw
   case rel=>exact⟨k+1,by go_num,by omega,hid (by rw[←HCE.out];exact HU8.out),HF8⟩
   case measure=>simp[Go.RowKit.intOf];omega
  ·have hke:k=m:=by omega
   have hkI:¬(k:Int)<(m:Int):=by omega
   have HQW:=hid (((HQ3.out.fr HF4.out List.not_mem_nil List.not_mem_nil).s).fr HF.out (fun hx=>hPU (List.mem_singleton.1 hx)));have H73:=hid (fn28_any ⟨U,n,R,K⟩ _ _ P cU lv wr HUW.out HQW.out hn);dsimp only at H73;have HZ:=hid (show(passTo K lv n (growAll R K E.L lv ss E.C k)).2=Z by rw[HLD.out,hke,HML.out]);rw[HZ.out]at H73;clear hke;go_wp2_with fail;refine H73.out.mono ?_;rintro e w5 ⟨rfl,hu5,hf5⟩;have HQ5:=hid (HQW.out.fr hf5 (fun hx=>hPU (List.mem_singleton.1 hx)));have H74:=hid (fun X (hf:Fr [] w5 X)=>fn29_any ⟨U,n,R,K⟩ _ Z P cU lv X (hu5.fr hf List.not_mem_nil) (HQ5.out.fr hf List.not_mem_nil) hn hn0);have HF5:=hid (show Fr [] w w5 from(((HF2.out.behind HF3.out (fun k hk=>by rw[List.mem_singleton.1 hk];exact hUw)).trans HF4.out).behind HF.out (fun k hk=>by rw[List.mem_singleton.1 hk];exact hUw)).behind hf5 (fun k hk=>by rw[List.mem_singleton.1 hk];exact hUw));have c2':=HQ5.out.c2;clear hu5 hf5 H73;go_wp2;go_region_with (first | (go_at_call 81;refine(H74.out _ ?_).mono ?_;exact frz _ _ _ rfl rfl rfl rfl;rintro e w6 ⟨g,rfl,hg,hrow,hf6⟩;have hf6':Fr [] w5 w6:=⟨hf6.os,hf6.tape,hf6.output,hf6.size,hf6.block⟩;have HF6:=hid (HF5.out.trans hf6');have HR6:=hid hrow;have HG6:=hid hg.1;have HS6:=hid hg.2;have c3:=hf6'.cell c2' List.not_mem_nil;clear hf6 hf6' hrow hg))
   all_goals (
    go_wp2
    go_ret2
    exact⟨g,rfl,HR6.out,HF6.out,Nat.le_trans HF5.out.size HG6.out,HS6.out⟩)
end Go.Proofs.YtnakejhohdbfdaaGreatDoor
namespace Go.Proofs.YtnakejhohdbfdaaGreatDoor
open Go.RowKit Lev Go.Maps
set_option maxRecDepth 10000 in
theorem part_nil (w:World):Calls Tryz.prog 125 #[.slice none 0 0] w fun e w'=>e=.returned (.map (some w.heap.size))∧w'=w.alloc (.map #[] 0):=by
 have hmm:=@run_makeMap Tryz.prog;go_enter Tryz.func125,Tryz.ntmps125;go_wp2;go_loopw [4,11] (fun v a wr=>v=.slice none 0 0∧a=.int .i64 0∧wr=w.alloc (.map #[] 0)) (fun _ _ _=>0)
 case atStart=>exact⟨rfl,rfl,rfl⟩
 case round =>
  obtain⟨rfl,rfl,rfl⟩:=hrel;go_wp2;go_ret;exact⟨rfl,rfl⟩
structure QN (w:World)(P:Nat)(lv:Int):Prop where
 o:∃mb,w.heap[P]?=some (.cells #[.slice none 0 0,.map (some mb),.int .i64 lv] 137 (0,0))
theorem QN.fr {T:List Nat}{w w':World}{P:Nat}{lv:Int}(h:QN w P lv)(hf:Fr T w w')(hP:P ∉ T):QN w' P lv:=by
 obtain⟨mb,h⟩:=h;exact⟨mb,(hf.block P (Array.getElem?_eq_some_iff.1 h).1 hP).trans h⟩
theorem QN.c0 {w:World}{P:Nat}{lv:Int}(h:QN w P lv):w.cell? ⟨P,0,none⟩=some (.slice none 0 0):=by
 obtain⟨mb,h⟩:=h;rw[cell_of_row _ _ 0 _ 137 (0,0) h];rfl
theorem QN.c2 {w:World}{P:Nat}{lv:Int}(h:QN w P lv):w.cell? ⟨P,2,none⟩=some (.int .i64 lv):=by
 obtain⟨mb,h⟩:=h;rw[cell_of_row _ _ 2 _ 137 (0,0) h];rfl
theorem QN.f2 {w:World}{P:Nat}{lv:Int}(h:QN w P lv):w.frozen? ⟨P,2,none⟩=false:=by
 obtain⟨mb,h⟩:=h;exact frozen_of_row _ _ 2 _ 137 h
theorem QN.set {w:World}{P:Nat}{lv:Int}(h:QN w P lv)(x:Int):QN (w.setCell ⟨P,2,none⟩ (.int .i64 x)) P x:=by
 obtain⟨mb,h⟩:=h;exact⟨mb,by rw[heap_setCell_same _ _ 2 _ 137 _ h];rfl⟩
set_option linter.unusedSimpArgs false in
set_option maxRecDepth 10000 in
set_option maxHeartbeats 2000000 in
theorem read_nil (s:ByteArray)(w:World)(hs:s.size=0):Calls Tryz.prog 72 #[.string s] w fun e w'=>e=.returned (.pointer (some ⟨w.heap.size,0,none⟩))∧QN w' w.heap.size 0∧Fr [] w w':=by
 go_enter Tryz.func72,Tryz.ntmps72;go_wp2_with fail;go_loopw [5] (fun _ wr=>wr.heap[w.heap.size+1]?=some (.stringIter s 0)∧Hid (wr.heap[w.heap.size]?=some (.cells #[.slice none 0 0,.map none,.int .i64 0] 137 (0,0)))∧Hid (Fr [] w wr)) (fun _ _=>0)
 case atStart =>
  refine⟨?_,hid ?_,hid ?_⟩
  ·have e:(w.alloc (.cells #[.slice none 0 0,.map none,.int .i64 0] 137)).heap.size=w.heap.size+1:=by simp
   rw[←e];exact World.iter_heap _ _ _
  ·exact(Lib.alloc_old _ _ _ (by simp)).trans (heap_alloc_new _ _)
  ·exact((Fr.refl _ _).alloc _).alloc _
 case round =>
  obtain⟨hit,HA,HF⟩:=hrel;have hnx:=fun ty=>Lib.run_next_end_at (P:=Tryz.prog) wr (w.heap.size+1) s 0 ty hit (by omega)
  have g0:wr.cell? ⟨w.heap.size,0,none⟩=some (.slice none 0 0):=by rw[cell_of_row _ _ 0 _ 137 (0,0) HA.out];rfl
  have HA1:=hid ((Below.heap_alloc wr (.map #[] 0) w.heap.size (Array.getElem?_eq_some_iff.1 HA.out).1).trans HA.out);have g1:(wr.alloc (.map #[] 0)).cell? ⟨w.heap.size,1,none⟩=some (.map none):=by rw[cell_of_row _ _ 1 _ 137 (0,0) HA1.out];rfl
  have g2:=frozen_of_row (wr.alloc (.map #[] 0)) w.heap.size 1 _ 137 HA1.out;go_wp2_with (first | (go_at_call 125;refine(part_nil _).mono ?_;rintro e w1 ⟨rfl,rfl⟩));go_ret;refine⟨rfl,⟨wr.heap.size,?_⟩,?_⟩
  ·rw[heap_setCell_same _ _ 1 _ 137 _ HA1.out];rfl
  ·exact(HF.out.alloc _).behind (fr_set1 _ _ 1 _) (fun k hk=>by rw[List.mem_singleton.1 hk];exact Nat.le_refl _)
set_option maxRecDepth 10000 in
theorem starts_nil (P:Nat)(w:World):Calls Tryz.prog 126 #[.pointer (some ⟨P,0,none⟩),.int .i64 0,.int .i64 0] w fun e w'=>e=.returned (.bool false)∧w'=w:=by
 go_enter Tryz.func126,Tryz.ntmps126;go_wp2;go_loopw [7] (fun a wr=>a=.int .i64 0∧wr=w) (fun _ _=>0)
 case atStart=>exact⟨rfl,rfl⟩
 case round =>
  obtain⟨rfl,rfl⟩:=hrel;go_wp2;go_ret;exact⟨rfl,rfl⟩
set_option maxRecDepth 10000 in
set_option maxHeartbeats 2000000 in
theorem from_nil (P:Nat)(b:Int)(w:World)(h:QN w P 0)(hb:b=0∨b=1∨b=2):Calls Tryz.prog 73 #[.pointer (some ⟨P,0,none⟩),.int .i64 b] w fun e w'=>e=.returned (.int .i64 (baseOf [] b))∧w'=w:=by
 have c0:=h.c0;clear h
 rcases hb with rfl | rfl | rfl
 all_goals (
  go_enter Tryz.func73,Tryz.ntmps73
  go_wp2_with (first | (go_at_call 126;refine(starts_nil _ _).mono ?_;rintro e w1 ⟨rfl,rfl⟩) | (go_at_call 127;refine(fn45_any _ _).mono ?_;rintro e w1 ⟨rfl,rfl⟩))
  go_ret
  exact⟨rfl,rfl⟩)
set_option maxRecDepth 10000 in
set_option maxHeartbeats 2000000 in
theorem embed_nil (P:Nat)(lv:Int)(w:World)(h:QN w P lv):Calls Tryz.prog 74 #[.pointer (some ⟨P,0,none⟩)] w fun e w'=>e=.returned (.tuple #[])∧Fr [] w w':=by
 have c0:=h.c0;have c2:=h.c2;have hp:=World.block_lt_of_cell? _ _ c2;dsimp only at hp;clear h;go_enter Tryz.func74,Tryz.ntmps74;go_wp2;obtain⟨W,hW⟩:∃W,(w.alloc (.cells #[.int .i64 lv,.int .i64 (-1),.bool false] 207)).alloc (.cells #[.slice (some ⟨w.heap.size,0,none⟩) 1 1,.int .i64 0,.int .i64 0,.int .i64 0] 210)=W:=⟨_,rfl⟩;have HF:=hid (show Fr [] w W by rw[←hW];exact((Fr.refl _ _).alloc _).alloc _);rw[hW];clear hW;go_loopw [17] (fun a wr=>a=.int .i64 0∧wr=W) (fun _ _=>0)
 case atStart=>exact⟨rfl,rfl⟩
 case round =>
  obtain⟨rfl,rfl⟩:=hrel;go_wp2;go_end0;exact⟨rfl,HF.out⟩
set_option maxRecDepth 10000 in
set_option maxHeartbeats 2000000 in
theorem runs_nil (P:Nat)(lv:Int)(w:World)(h:QN w P lv):Calls Tryz.prog 134 #[.pointer (some ⟨P,0,none⟩)] w fun e w'=>e=.returned (.slice none 0 0)∧w'=w:=by
 have c0:=h.c0;clear h;go_enter Tryz.func134,Tryz.ntmps134;go_wp2;go_loopw [3,12] (fun v a wr=>v=.slice none 0 0∧a=.int .i64 0∧wr=w) (fun _ _ _=>0)
 case atStart=>exact⟨rfl,rfl,rfl⟩
 case round =>
  obtain⟨rfl,rfl,rfl⟩:=hrel;go_wp2;go_ret;exact⟨rfl,rfl⟩
set_option maxRecDepth 10000 in
set_option maxHeartbeats 2000000 in
theorem seqs_nil (P:Nat)(lv:Int)(w:World)(h:QN w P lv):Calls Tryz.prog 75 #[.pointer (some ⟨P,0,none⟩)] w fun e w'=>e=.returned (.slice none 0 0)∧w'=w.alloc (.map #[] 0):=by
 have hmm:=@run_makeMap Tryz.prog;have HR:=hid (runs_nil P lv w h);clear h;go_enter Tryz.func75,Tryz.ntmps75;go_wp2_with (first | (go_at_call 134;refine HR.out.mono ?_;rintro e w1 ⟨rfl,rfl⟩));go_loopw [4,17] (fun v a wr=>v=.slice none 0 0∧a=.int .i64 0∧wr=w1.alloc (.map #[] 0)) (fun _ _ _=>0)
 case atStart=>exact⟨rfl,rfl,rfl⟩
 case round =>
  obtain⟨rfl,rfl,rfl⟩:=hrel;go_wp2;go_ret;exact⟨rfl,rfl⟩
set_option maxRecDepth 10000 in
set_option maxHeartbeats 2000000 in
theorem pass_nil (P:Nat)(lv:Int)(w:World)(h:QN w P lv):Calls Tryz.prog 80 #[.pointer (some ⟨P,0,none⟩)] w fun e w'=>e=.returned (.tuple #[])∧w'=w:=by
 have c0:=h.c0;have c2:=h.c2;clear h;go_enter Tryz.func80,Tryz.ntmps80;go_wp2;go_loopw [2,13] (fun x a wr=>x=.int .i64 lv∧a=.int .i64 0∧wr=w) (fun _ _ _=>0)
 case atStart=>exact⟨rfl,rfl,rfl⟩
 case round =>
  obtain⟨rfl,rfl,rfl⟩:=hrel;go_wp2;go_end0;exact⟨rfl,rfl⟩
set_option maxRecDepth 10000 in
set_option maxHeartbeats 2000000 in
theorem levels_nil (P:Nat)(lv:Int)(w:World)(h:QN w P lv):Calls Tryz.prog 81 #[.pointer (some ⟨P,0,none⟩)] w fun e w'=>(∃g,e=.returned (.slice (some ⟨g,0,none⟩) 0 0))∧Fr [] w w':=by
 have c0:=h.c0;have hp:=World.block_lt_of_cell? _ _ c0;dsimp only at hp;obtain⟨i3,hi3,hz30,hz31,hz32⟩:=info_parts info3;obtain⟨ZL,hZL⟩:∃ZL,ZL=madeCells #[.int .i64 0] 0:=⟨_,rfl⟩;have hmk1:∀X:World,(Instr.makeSlice 22 (.int .i64 0) (.int .i64 0)).run Tryz.prog X=.ok (.slice (some ⟨X.heap.size,0,none⟩) 0 0) (X.alloc (.cells ZL 3)):=fun X=>by
  have:=run_make (P:=Tryz.prog) X 22 3 i3 _ Tryz.underlying22 hi3 hz30 .i64 .i64 0 0 (by omega) (Int.le_refl _) (by rw[hz32];omega) (by omega);rw[hz31]at this;rw[hZL];exact this
 clear h hZL;go_enter Tryz.func81,Tryz.ntmps81;go_wp2;go_loopw [17] (fun a wr=>a=.int .i64 0∧wr=w.alloc (.cells ZL 3)) (fun _ _=>0)
 case atStart=>exact⟨rfl,rfl⟩
 case round =>
  obtain⟨rfl,rfl⟩:=hrel;go_wp2;go_ret;exact⟨⟨_,rfl⟩,(Fr.refl _ _).alloc _⟩
set_option maxRecDepth 10000 in
set_option maxHeartbeats 4000000 in
theorem of_nil (s:ByteArray)(b:Int)(w:World)(hs:s.size=0)(hb:b=0∨b=1∨b=2) :
 Calls Tryz.prog 38 #[.string s,.int .i64 b] w fun e w'=>∃g,e=.returned (.tuple #[.slice (some ⟨g,0,none⟩) 0 0,.int .i64 (baseOf [] b)])∧Fr [] w w':=by
 have H65:=hid (read_nil s w hs);have H66:=hid (fun Y h=>from_nil w.heap.size b Y h hb);generalize baseOf [] b=lv at *;clear hs hb;go_enter Tryz.func38,Tryz.ntmps38;go_wp2_with fail;refine H65.out.mono ?_;rintro e w1 ⟨rfl,hq1,hf1⟩;have H66b:=hid (H66.out w1 hq1);have HQ1:=hid hq1;have HF1:=hid hf1;have c2:=hq1.c2;have f2:=hq1.f2;have hPl:=World.block_lt_of_cell? _ _ c2;dsimp only at hPl;clear H65 H66 hq1 hf1;go_wp2_with fail;refine H66b.out.mono ?_;rintro e w1 ⟨rfl,rfl⟩;have HQ2:=hid (HQ1.out.set lv);have HF2:=hid (show Fr [] w (w1.setCell ⟨w.heap.size,2,none⟩ (.int .i64 lv))from HF1.out.behind (fr_set1 w1 _ 2 _) (fun k hk=>by rw[List.mem_singleton.1 hk];exact Nat.le_refl _));have H67:=hid (embed_nil w.heap.size lv _ HQ2.out);clear H66b;go_wp2_with fail;refine H67.out.mono ?_;rintro e w3 ⟨rfl,hf3⟩;have HQ3:=hid (HQ2.out.fr hf3 List.not_mem_nil);have HF3:=hid (HF2.out.trans hf3);have H68:=hid (seqs_nil w.heap.size lv w3 HQ3.out);clear H67 hf3;go_wp2_with fail;refine H68.out.mono ?_;rintro e w4 ⟨rfl,rfl⟩;have HQ4:=hid (HQ3.out.fr ((Fr.refl [] w3).alloc (.map #[] 0)) List.not_mem_nil);have HF4:=hid (HF3.out.alloc (.map #[] 0));have H73:=hid (pass_nil w.heap.size lv _ HQ4.out);generalize w3.alloc (.map #[] 0)=w4 at *;clear H68;go_wp2;go_loopw [22] (fun a wr=>a=.int .i64 0∧wr=w4) (fun _ _=>0)
 case atStart=>exact⟨rfl,rfl⟩
 case round =>
  obtain⟨rfl,rfl⟩:=hrel;go_wp2_with fail;refine H73.out.mono ?_;rintro e w5 ⟨rfl,rfl⟩;have c3:=HQ4.out.c2;have H74:=hid (fun X (hf:Fr [] w5 X)=>levels_nil w.heap.size lv X (HQ4.out.fr hf List.not_mem_nil));clear H73;go_wp2;go_region_with (first | (go_at_call 81;refine(H74.out _ ?_).mono ?_;exact frz _ _ _ rfl rfl rfl rfl;rintro e w6 ⟨⟨g,rfl⟩,hf6⟩;have hf6':Fr [] w5 w6:=⟨hf6.os,hf6.tape,hf6.output,hf6.size,hf6.block⟩;have HF6:=hid (HF4.out.trans hf6');have c4:=hf6'.cell c3 List.not_mem_nil;clear hf6 hf6'))
  all_goals (
   go_wp2
   go_ret2
   exact⟨g,rfl,HF6.out⟩)
end Go.Proofs.YtnakejhohdbfdaaGreatDoor
namespace Go.Proofs.YtnakejhohdbfdaaGreatDoor
open Go.RowKit Lev Lay Bnd
def evOf (s:ByteArray)(n:Nat)(bs:Int)(Br:List Int)(i:Nat):Int:=elv (Kl s n) (levels (Rl s n) (Kl s n) bs) bs (edg (bix s n) (bnd s n) Br) i
def eiOf (s:ByteArray)(n:Nat)(Br:List Int)(k:Nat):Nat:=ei (bnd s n) (cn s n) Br k
def lns (s:ByteArray)(n:Nat)(bs:Int)(W Br:List Int)(k:Nat):List Ln:=(List.range k).map fun j=>lnOf (Dec.pos s) (nix (bix s n)) (evOf s n bs Br) W (eiOf s n Br j) (eiOf s n Br (j+1))
theorem lns_snoc (s:ByteArray)(n:Nat)(bs:Int)(W Br:List Int)(k:Nat):lns s n bs W Br (k+1)=lns s n bs W Br k++[lnOf (Dec.pos s) (nix (bix s n)) (evOf s n bs Br) W (eiOf s n Br k) (eiOf s n Br (k+1))]:=by
 rw[lns,List.range_succ,List.map_append];rfl
theorem lns_len (s:ByteArray)(n:Nat)(bs:Int)(W Br:List Int)(k:Nat):(lns s n bs W Br k).length=k:=by simp[lns]
theorem pos_le_size {s:ByteArray}{n i:Nat}(h:Dec.Ends s n)(hi:i≤n):Dec.pos s i≤s.size:=by
 rcases Nat.lt_or_eq_of_le hi with h1 | h1
 ·exact Nat.le_of_lt (h.2 i h1)
 ·rw[h1,h.1];exact Nat.le_refl _
theorem ctx_of {s:ByteArray}{n:Nat}{bs:Int}{W Br:List Int}(hs:s.size≤400)(h:Dec.Ends s n)(hn:0<n)(hb:bs=0∨bs=1)(hW:W.length=n)(hw:wOk W n=true):Ctx (Dec.pos s) (nix (bix s n)) (evOf s n bs Br) W n (cn s n) where
 n0:=hn
 n1:=by have:=Dec.le_pos s n;have:=h.1;omega
 cn:=by have:=bix_len s n;rw[cn];omega
 mono:=Dec.pos_mono s
 rim:=fun i j hij hj=>nix_lt (bix_sorted s n) hij (by have:=bix_len s n;rw[cn]at hj;omega)
 ric:=bix_last s n
 ev:=fun i=>by have:=elv_bound (Rl s n) (Kl s n) bs hb (edg (bix s n) (bnd s n) Br) i;unfold evOf;omega
 wb:=fun i=>by
  by_cases hi:i<n
  ·exact wOk_at hw hi
  ·rw[nth,List.getElem?_eq_none (by omega)];decide
 pb:=fun i hi=>Nat.le_trans (pos_le_size h hi) hs
theorem ev_line {s:ByteArray}{n:Nat}{bs:Int}{Br:List Int}(E:Edges s n Br){k:Nat}(hk:k≤Br.length)(i:Nat)(h1:nix (bix s n) (eiOf s n Br k)≤i)(h2:i<nix (bix s n) (eiOf s n Br (k+1))) :
 enD (Kl s n) (levels (Rl s n) (Kl s n) bs) bs (nix (bix s n) (eiOf s n Br (k+1))) i=evOf s n bs Br i:=by
 have hb:nix (bix s n) (eiOf s n Br (k+1))≤(Kl s n).length:=by
  rw[Kl_len];have h3:=E.le (k+1) (by omega);have hl:=bix_len s n
  rcases Nat.lt_or_eq_of_le h3 with h4 | h4
  ·have:=nix_lt (bix_sorted s n) h4 (by rw[cn];omega);rw[bix_last]at this;exact Nat.le_of_lt this
  ·unfold eiOf;rw[h4,bix_last];exact Nat.le_refl _
 rw[enD,evOf,elv,ends_same (Kl s n) (edg (bix s n) (bnd s n) Br) _ _ hb (edg_yes (by omega)) (fun m a1 a2=>edg_no E hk a1 a2) _ i rfl h1 h2]
theorem Fr.trans_lb {w w1 w2:World}{lb:Nat}(h:Fr [] w w1)(k:Fr [lb] w1 w2)(hl:w.heap.size≤lb):Fr [] w w2 :=
 ((h.mono (fun _ hx _=>absurd hx List.not_mem_nil):Fr [lb] w w1).trans k).mono (fun x hx hlt=>by have:=List.mem_singleton.1 hx;omega)
set_option maxRecDepth 10000 in
set_option maxHeartbeats 4000000 in
theorem newD_pos (s:ByteArray)(b:Int)(vW vB:Value)(W Br:List Int)(n:Nat)(w:World)(hs:s.size≤400)(hb:b=0∨b=1∨b=2)(hT:Lib.Utf8Tabs 1 2 w)(hend:Dec.Ends s n)(hn:0<n)(hW:slAt w vW W)(hWl:W.length=n)(hw:wOk W n=true)(hB:slAt w vB Br)(hBl:Br.length≤900)(hbr:brTo (bnd s n) s.size Br Br.length=true) :
 Calls Tryz.prog 54 #[.agg #[.string s,.int .i64 b,vW,vB]] w fun e w'=>∃lb WB vC vL hs,e=.returned (.pointer (some ⟨lb,0,none⟩))∧LD WB w' w'.heap.size lb s (baseOf (Kl s n) b) vC vL (clst (Dec.pos s) (nix (bix s n)) (evOf s n (baseOf (Kl s n) b) Br) W (cn s n)) (lns s n (baseOf (Kl s n) b) W Br (Br.length+1)) hs∧w.heap.size≤lb∧Fr [] w w':=by
 have hn4:n≤400:=by have:=Dec.le_pos s n;have:=hend.1;omega
 have hbs:baseOf (Kl s n) b=0∨baseOf (Kl s n) b=1:=base_01 hb;obtain⟨aW,cW,rfl,hW2⟩:=hW;obtain⟨gW,oW,rfl,hWr⟩:=hW2.resolve_left (by omega);obtain⟨aB,cB,rfl,hB2⟩:=hB;rw[hWl]at hWr ⊢;obtain⟨wb,hwb⟩:∃wb,wb=w.alloc (.cells #[.string s,.int .i64 b,.slice (some ⟨gW,oW,none⟩) n cW,.slice aB Br.length cB] 35):=⟨_,rfl⟩;have HFb:=hid (show Fr [] w wb by rw[hwb];exact(Fr.refl [] w).alloc _);have HOB:=hid (show wb.heap[w.heap.size]?=some (.cells #[.string s,.int .i64 b,.slice (some ⟨gW,oW,none⟩) n cW,.slice aB Br.length cB] 35 (0,0)) by rw[hwb];exact obj_new w _);have HTb:=hid (fun(X:World) (hf:Fr [] w X)=>Cls.tabs_below hT (hf.below (Nat.le_refl _) (fun _ h=>absurd h List.not_mem_nil)));have H10:=hid (ref5_full s b wb (by omega) (HTb.out wb HFb.out) n hend hn hb);have HE:=hid (edges_ok hend hn Br hbr);have HEN:=hid hend;have HX:=hid (ctx_of (Br:=Br) hs hend hn hbs hWl hw);have HBS:=hid hbs;have HWr:=hid hWr;have HB2:=hid hB2;have hgW:gW<w.heap.size:=World.block_lt_of_cell? _ _ (hWr 0 hn);obtain⟨nB,hnB⟩:∃nB,nB=Br.length:=⟨_,rfl⟩;rw[←hnB]at hwb HOB hBl HB2 ⊢;have HNB:=hid hnB;obtain⟨bs,hbs'⟩:∃bs,bs=baseOf (Kl s n) b:=⟨_,rfl⟩;rw[←hbs']at H10 HX HBS ⊢;clear hW2 hB2 hWr hT hend hbs hbs' hnB hbr hw;go_enter Tryz.func54,Tryz.ntmps54;go_wp2_with fail;rw[←hwb];have hwbs:wb.heap.size=w.heap.size+1:=by rw[hwb];simp
 have HWBS:=hid hwbs;clear hwb hwbs;refine H10.out.mono ?_;rintro e w1 ⟨q,C,G,rfl,hP,hqn,hqK,hqb,hG,hrP,hf1⟩;have HF1:=hid (HFb.out.trans hf1);have HOB1:=hid (obj_fr HOB.out hf1 List.not_mem_nil);have HP:=hid hP;have HG:=hid hG;have HRP:=hid hrP;have HQN:=hid hqn;have HQK:=hid hqK;have HQB:=hid hqb;have k0:=obj_cell HOB1.out (i:=0) rfl;have k6:=hP.c6;rw[hqb]at k6;have hsb:=obj_lt HOB1.out;have hqp:q.p<w1.heap.size:=hP.lt;clear hP hG hrP hqn hqK hqb hf1 H10;go_wp2_with fail;go_region;obtain⟨w2,hw2⟩:∃w2,w2=(w1.alloc (.cells #[.string s,.int .i64 bs,.slice none 0 0,.slice none 0 0] 46)).drew:=⟨_,rfl⟩;have HF2:=hid (show Fr [] w1 w2 by rw[hw2];exact frA _ _);have HLO:=hid (show w2.heap[w1.heap.size]?=some (.cells #[.string s,.int .i64 bs,.slice none 0 0,.slice none 0 0] 46 (0,0)) by rw[hw2];exact obj_new w1 _);rw[←hw2];clear hw2;have HOB2:=hid (obj_fr HOB1.out HF2.out List.not_mem_nil);clear k0 k6;have k0:=obj_cell HOB2.out (i:=0) rfl;have H61:=hid (Cls.ref15_any s w2 (by omega) (HTb.out w2 (HF1.out.trans HF2.out)) n HEN.out);go_wp2_with fail;refine H61.out.mono ?_;rintro e WB ⟨v5,rfl,own5,hb5⟩;have HF3:=hid (HF2.out.trans (Fr.of_below (S:=[]) hb5));have HLO3:=hid (obj_fr HLO.out (Fr.of_below (S:=[]) hb5) List.not_mem_nil);have HOB3:=hid (obj_fr HOB1.out HF3.out List.not_mem_nil);have hBlen:(bnd s n).length=cn s n+1:=by have:=bix_len s n;rw[bnd_length HEN.out,cn];omega
 rw[hBlen]at own5;obtain⟨gB,cB5,hv5⟩:=owns_shape (by omega) own5;subst hv5;have HRB:=hid (show rowAt WB gB (cn s n+1) (bnd s n)from fun j hj=>by rw[own5.cellAt j (by omega),ints64_at (by omega)]);have hgB:=owns_at own5;have hlb:w1.heap.size<WB.heap.size:=obj_lt HLO3.out;have hlb2:w1.heap.size<w2.heap.size:=obj_lt HLO.out;have HPW:=hid (HP.out.fr0 HF3.out);have HRPW:=hid (HRP.out.fr HF3.out List.not_mem_nil);have HWrW:=hid (HWr.out.fr (HF1.out.trans HF3.out) List.not_mem_nil)
 have HNE:=hid (show w1.heap.size≠q.p∧w1.heap.size≠q.bR∧w1.heap.size≠q.bF∧w1.heap.size≠q.bM∧w1.heap.size≠q.bC∧w1.heap.size≠q.bL∧w1.heap.size≠q.bG∧w1.heap.size≠gW∧w1.heap.size≠gB by
  have hn':0<q.n:=by rw[HQN.out];exact hn
  have h1:=HP.out.lt;have h2:=HP.out.ltR hn';have h3:=HP.out.ltF hn';have h4:=HP.out.ltM hn';have h5:=HP.out.ltC hn';have h6:=HP.out.ltL hn';have h7:=HP.out.ltG hn'
  omega)
 have HL0:=hid (show LD WB WB WB.heap.size w1.heap.size s bs (.slice none 0 0) (.slice none 0 0) (clst (Dec.pos s) (nix (bix s n)) (evOf s n bs Br) W (eiOf s n Br 0)) (lns s n bs W Br 0) []from
  ⟨Fr.refl _ _,hlb,HLO3.out,World.ownsRow_nil _ _ _ _,World.ownsRow_nil _ _ _ _,fun j l hj=>by simp[lns]at hj⟩)
 have HMB:=hid (fun k (hk:k≤cn s n)=>bnd_nth HEN.out (k:=k) (by have:=bix_len s n;rw[cn]at hk;omega));have hcn400:cn s n≤n:=HX.out.cn;have hsb2:=hsb;clear own5 hb5 H61 k0 hBlen;have k0:=obj_cell HOB3.out (i:=0) rfl;have k3:=obj_cell HOB3.out (i:=3) rfl;go_wp2_with fail;go_loopw [6,7] (fun ff kk wr=>∃(k:Nat) (U:Nat) (vC vL:Value) (hs':List Value),kk=.int .i64 k∧k≤nB+1∧ff=.int .i64 (Dec.pos s (nix (bix s n) (eiOf s n Br k)):Nat)∧Hid (LD WB wr U w1.heap.size s bs vC vL (clst (Dec.pos s) (nix (bix s n)) (evOf s n bs Br) W (eiOf s n Br k)) (lns s n bs W Br k) hs')∧U≤wr.heap.size) (fun _ kk _=>nB+1 - (intOf kk).toNat)
 case atStart=>exact⟨0,WB.heap.size,_,_,_,rfl,Nat.zero_le _,by rw[eiOf,HE.out.e0,bix_zero];rfl,HL0,Nat.le_refl _⟩
 case round =>
  obtain⟨k,U,vC,vL,hs',rfl,hkn,rfl,HLk,hU⟩:=hrel;have j0:=obj_cell (obj_fr HOB3.out HLk.out.fr (fun h=>by have:=List.mem_singleton.1 h;omega)) (i:=0) rfl;have j2:=obj_cell (obj_fr HOB3.out HLk.out.fr (fun h=>by have:=List.mem_singleton.1 h;omega)) (i:=2) rfl;have j3:=obj_cell (obj_fr HOB3.out HLk.out.fr (fun h=>by have:=List.mem_singleton.1 h;omega)) (i:=3) rfl;by_cases hkl:k≤nB
  ·have hkI:(k:Int)≤(nB:Int):=by omega
   have hab:eiOf s n Br k<eiOf s n Br (k+1):=HE.out.mono k (k+1) (by omega) (by have:=HNB.out;omega);have hbc:eiOf s n Br (k+1)≤cn s n:=HE.out.le (k+1) (by have:=HNB.out;omega);have HLN:=hid (line_any (Dec.pos s) (nix (bix s n)) (evOf s n bs Br) W (bnd s n) n (cn s n) HX.out q C (levels (Rl s n) (Kl s n) bs) G WB wr U w1.heap.size s bs vC vL (lns s n bs W Br k) hs' gW oW cW gB cB5 (eiOf s n Br k) (eiOf s n Br (k+1)) HLk.out hU (by rw[lns_len];omega) HPW.out (fun i hi=>by rw[HQK.out];exact HG.out i (by rw[←HQN.out];exact hi)) HQN.out HRPW.out HWrW.out HRB.out HMB.out HNE.out hab hbc (fun i h1 h2=>by rw[HQK.out,HQB.out];exact ev_line HE.out (by have:=HNB.out;omega) i h1 h2));have HNX:=hid (lns_snoc s n bs W Br k)
   have HTO:=hid (show((Dec.pos s (nix (bix s n) (eiOf s n Br (k+1))):Nat):Int)=if k<nB then nth Br k else((s.size:Nat):Int) by
    by_cases h:k<nB
    ·rw[if_pos h];exact HE.out.at_ k (by have:=HNB.out;omega)
    ·have e:k+1=Br.length+1:=by have:=HNB.out;omega
     rw[if_neg h,eiOf,e,HE.out.eN,bix_last,HEN.out.1])
   generalize Dec.pos s (nix (bix s n) (eiOf s n Br k))=fa at *;generalize htb:Dec.pos s (nix (bix s n) (eiOf s n Br (k+1)))=tb at *;have HTBB:=hid htb;clear htb;by_cases hkl2:k<nB
   ·have hkI2:(k:Int)<(nB:Int):=by omega
    obtain⟨g,o,haB,hrow⟩:=HB2.out.resolve_left (by omega);have hgl:g<w.heap.size:=World.block_lt_of_cell? _ _ (hrow k hkl2);have d0:=HLk.out.fr.cell ((HF1.out.trans HF3.out).cell (hrow k hkl2) List.not_mem_nil) (fun h=>by have:=List.mem_singleton.1 h;have:=HF1.out.size;omega);subst haB;have htb2:nth Br k=((tb:Nat):Int):=by rw[HTO.out,if_pos hkl2]
    rw[htb2]at d0;clear hrow htb2;go_wp2_with fail;refine HLN.out.mono ?_;rintro e w9 ⟨rfl,vC',vL',hs9,hL9⟩;have HL9:=hid hL9;clear hL9 HLN;go_wp2;go_roundw
    case rel=>exact⟨k+1,w9.heap.size,vC',vL',hs9,by go_num,by omega,by rw[HTBB.out],hid (by rw[HNX.out];exact HL9.out),Nat.le_refl _⟩
    case measure=>simp[intOf];omega
   ·have hkI2:¬(k:Int)<(nB:Int):=by omega
    have htb2:((s.size:Nat):Int)=((tb:Nat):Int):=by rw[HTO.out,if_neg hkl2]
    have htb3:tb=s.size:=by omega
    subst htb3;clear htb2;go_wp2_with fail;refine HLN.out.mono ?_;rintro e w9 ⟨rfl,vC',vL',hs9,hL9⟩;have HL9:=hid hL9;clear hL9 HLN;go_wp2;go_roundw
    case rel=>exact⟨k+1,w9.heap.size,vC',vL',hs9,by go_num,by omega,by rw[HTBB.out],hid (by rw[HNX.out];exact HL9.out),Nat.le_refl _⟩
    case measure=>simp[intOf];omega
  ·obtain rfl:k=nB+1:=by omega
   have hkI:¬((nB+1:Nat):Int)≤(nB:Int):=by omega
   have HLF:=hid (show LD WB wr wr.heap.size w1.heap.size s bs vC vL (clst (Dec.pos s) (nix (bix s n)) (evOf s n bs Br) W (cn s n)) (lns s n bs W Br (nB+1)) hs' by
    have h:=HLk.out
    have e:eiOf s n Br (nB+1)=cn s n:=by rw[eiOf,HNB.out];exact HE.out.eN
    rw[e]at h
    exact h.mono hU)
   go_wp2;go_ret;refine⟨w1.heap.size,rfl,⟨WB,vC,vL,hs',HLF.out⟩,HF1.out.size,?_⟩;have h1:=HLF.out.fr;exact(HF1.out.trans HF3.out).trans_lb h1 HF1.out.size
def lvs (s:ByteArray)(Lv:List Int)(i:Nat):List Int:=(begs s i).map (nth Lv)
theorem lvs_yes {s:ByteArray}{Lv:List Int}{i:Nat}(h:beg s i=true):lvs s Lv (i+1)=lvs s Lv i++[nth Lv i]:=by rw[lvs,begs_yes h,List.map_append];rfl
theorem lvs_no {s:ByteArray}{Lv:List Int}{i:Nat}(h:beg s i=false):lvs s Lv (i+1)=lvs s Lv i:=by rw[lvs,begs_no h];rfl
theorem lvs_len (s:ByteArray)(Lv:List Int)(i:Nat):(lvs s Lv i).length=(begs s i).length:=by simp[lvs]
theorem lvs_at {s:ByteArray}{Lv:List Int}{i k:Nat}(h:k<(begs s i).length):nth (lvs s Lv i) k=nth Lv (nix (begs s i) k):=by simp[nth,lvs,nix,h]
theorem wl_yes {s:ByteArray}{W:List Int}{i:Nat}(h:beg s i=true):wl s W (i+1)=(wl s W i++[0]).set (wl s W i).length (0+nth W i):=by
 rw[wl,if_pos h,List.set_append_right _ _ (Nat.le_refl _),Nat.sub_self,List.set_cons_zero,Int.zero_add]
theorem wl_no {s:ByteArray}{W:List Int}{i:Nat}(h:beg s i=false):wl s W (i+1)=(wl s W i).set ((wl s W i).length - 1) (nth (wl s W i) ((wl s W i).length - 1)+nth W i):=by
 rw[wl,if_neg (by rw[h];exact Bool.false_ne_true)]
theorem begs_lt_bix {s:ByteArray}{n i:Nat}(hi:i≤n)(hn:0<n):(begs s i).length<(bix s n).length:=by
 obtain⟨d,rfl⟩:∃d,n=i+d:=⟨n - i,by omega⟩;have h:=(begs_prefix s i d).length_le;rw[bix,if_neg (by omega),List.length_append];simp only[List.length_cons,List.length_nil];omega
theorem beg_pos {s:ByteArray}{i:Nat}(h:beg s i=false):0<i:=by
 rcases Nat.eq_zero_or_pos i with h0 | h0
 ·rw[h0]at h;exact absurd h (by simp[beg])
 ·exact h0
theorem begs_some (s:ByteArray){i:Nat}(h:0<i):0<(begs s i).length:=(begs_len s i).2 h
theorem beg_look {s:ByteArray}{n i:Nat}(h:Dec.Ends s n)(hn:0<n)(hi:i<n):(((Dec.pos s i:Nat):Int) == nth (bnd s n) (begs s i).length)=beg s i:=by
 have hl:=begs_lt_bix (s:=s) (Nat.le_of_lt hi) hn;rw[bnd_nth h hl];cases hb:beg s i
 ·have h2:=(bix_next (s:=s) hi).2 hb
  have h3:nix (bix s n) (begs s i).length≤n:=by
   rcases Nat.lt_or_eq_of_le (show(begs s i).length≤cn s n by unfold cn;omega)with h4 | h4
   ·have:=nix_lt (bix_sorted s n) h4 (by unfold cn;omega);rw[bix_last]at this;omega
   ·rw[h4,bix_last];exact Nat.le_refl _
  have h5:=Dec.pos_mono s _ _ h2;simp;omega
 ·rw[(bix_next (s:=s) hi).1 hb];simp
end Go.Proofs.YtnakejhohdbfdaaGreatDoor

import Derived.Test.YtnakejhohdbfdacGreatDoorKQcE
namespace Go.Proofs.YtnakejhohdbfdacGreatDoor
open Go.RowKit Lev Lay Bnd
theorem lnN_get' {Ls:List Ln}{i:Nat}(h:i<Ls.length):Ls[i]?=some (lnN Ls i):=by rw[lnN,List.getElem?_eq_getElem h];rfl
def selL (Ls:List Ln)(f:Nat→Bool):Nat→List Spn
 | 0=>[]
 | n+1=>selL Ls f n++spL n (lnN Ls n).x (Lay.parts f (lnN Ls n).o)
theorem selL_small {Ls:List Ln}{f:Nat→Bool}{d:Nat}(hd:∀i,(lnN Ls i).o.length≤d):∀n,(selL Ls f n).length≤n * (d+1)
 | 0=>Nat.zero_le _
 | n+1=>by
   have ih:=selL_small (f:=f) hd n;have h1:=(partsTo_len f (lnN Ls n).o ((lnN Ls n).o.length+1)).1;have h2:=hd n;rw[selL,List.length_append,spL,List.length_map,Nat.succ_mul];unfold Lay.parts;omega
def snp (Bd:List Int)(z off:Int)(up:Bool):Int:=snapL Bd (min (max off 0) z) up (cidx Bd (min (max off 0) z))
def askd (Bd:List Int)(z a b:Int)(c:Nat):Bool:=decide (cidx Bd (snp Bd z (min a b) false)≤c) && decide (c<cidx Bd (snp Bd z (max a b) true))
theorem sel1_any (f0 t0 c:Nat)(bf bt:Nat)(w:World)(hf:w.cell? ⟨bf,0,none⟩=some (.int .i64 (f0:Nat)))(ht:w.cell? ⟨bt,0,none⟩=some (.int .i64 (t0:Nat))) :
 Calls Tryz.prog 104 (#[.int .i64 c]++#[.pointer (some ⟨bf,0,none⟩),.pointer (some ⟨bt,0,none⟩)]) w fun e w'=>e=.returned (.bool (decide (f0≤c) && decide (c<t0)))∧∃q,w'=w.drewN q:=by
 by_cases h1:f0≤c
 ·have h1I:(f0:Int)≤(c:Int):=by omega
  by_cases h2:c<t0
  ·have h2I:(c:Int)<(t0:Int):=by omega
   go_enter Tryz.func104,Tryz.ntmps104;go_wp2;go_ret;exact⟨by simp[h1,h2],0,rfl⟩
  ·have h2I:¬(c:Int)<(t0:Int):=by omega
   go_enter Tryz.func104,Tryz.ntmps104;go_wp2;go_ret;exact⟨by simp,0,rfl⟩
 ·have h1I:¬(f0:Int)≤(c:Int):=by omega
  go_enter Tryz.func104,Tryz.ntmps104;go_wp2;go_ret;exact⟨by simp,0,rfl⟩
theorem enters160 (args:Array Value)(w:World):(callFunc 104 args).run Tryz.prog w=.ok (.enter 104 args) w:=by kernel_rfl
set_option maxRecDepth 10000 in
set_option maxHeartbeats 4000000 in
theorem select_any (B P:Nat)(Bd V X:List Int)(r z:Int)(Ls:List Ln)(v0 v1 v2 vL:Value)(hs:List Value)(a b:Int)(w:World)(h:LP w B P Bd V X r Ls v0 v1 v2 vL hs)(hr:Rises Bd z)(hz:0≤z)(hbl:Bd.length≤1000)(hK0:0<Ls.length)(hK:Ls.length≤400)(hlo:∀l∈Ls,l.o.length≤1000∧l.x.length=l.o.length+1) :
 Calls Tryz.prog 64 #[.pointer (some ⟨P,0,none⟩),.int .i64 a,.int .i64 b] w fun e w'=>∃v,e=.returned v∧w'.ownsRow w.heap.size 251 5 v (selL Ls (askd Bd z a b) Ls.length).length (spCells (selL Ls (askd Bd z a b) Ls.length))∧Fr [] w w':=by
 have hl0:=hr.len;obtain⟨gB,cB,hvB,_,HRB⟩:=h.b.row hl0;subst hvB;obtain⟨xa,hxa⟩:∃xa,xa=snp Bd z (min a b) false:=⟨_,rfl⟩;obtain⟨xb,hxb⟩:∃xb,xb=snp Bd z (max a b) true:=⟨_,rfl⟩
 have H1:=hid (fun(Y:World) (hf:Fr [] w Y)=>show Calls Tryz.prog 40 #[.slice (some ⟨gB,0,none⟩) Bd.length cB,.int .i64 (min a b),.bool false] Y fun e w'=>e=.returned (.int .i64 xa)∧∃q,w'=Y.drewN q by
  obtain⟨k,hk⟩:=cut_exists (min (max (min a b) 0) z) Bd hr.sorted
  have h1:=Cls.fn35_any Bd z hr (min a b) false k gB cB Y hz hk (by omega) (fun j hj=>HRB.fr hf List.not_mem_nil j hj)
  rw[show k=cidx Bd (min (max (min a b) 0) z)from(cut_count hk).symm]at h1
  rw[hxa];exact h1)
 have H2:=hid (fun(Y:World) (hf:Fr [] w Y)=>show Calls Tryz.prog 40 #[.slice (some ⟨gB,0,none⟩) Bd.length cB,.int .i64 (max a b),.bool true] Y fun e w'=>e=.returned (.int .i64 xb)∧∃q,w'=Y.drewN q by
  obtain⟨k,hk⟩:=cut_exists (min (max (max a b) 0) z) Bd hr.sorted
  have h1:=Cls.fn35_any Bd z hr (max a b) true k gB cB Y hz hk (by omega) (fun j hj=>HRB.fr hf List.not_mem_nil j hj)
  rw[show k=cidx Bd (min (max (max a b) 0) z)from(cut_count hk).symm]at h1
  rw[hxb];exact h1)
 obtain⟨fa,hfa⟩:∃fa,fa=cidx Bd xa:=⟨_,rfl⟩;obtain⟨fb,hfb⟩:∃fb,fb=cidx Bd xb:=⟨_,rfl⟩
 have H3:=hid (fun(Y:World) (hf:Fr [] w Y)=>show Calls Tryz.prog 100 #[.agg #[.slice (some ⟨gB,0,none⟩) Bd.length cB,v1,v2],.int .i64 xa] Y fun e w'=>e=.returned (.int .i64 (fa:Nat))∧Fr [] Y w' by
  rw[hfa];exact at_any Bd z hr xa gB cB Bd.length v1 v2 Y rfl hbl (HRB.fr hf List.not_mem_nil))
 have H4:=hid (fun(Y:World) (hf:Fr [] w Y)=>show Calls Tryz.prog 100 #[.agg #[.slice (some ⟨gB,0,none⟩) Bd.length cB,v1,v2],.int .i64 xb] Y fun e w'=>e=.returned (.int .i64 (fb:Nat))∧Fr [] Y w' by
  rw[hfb];exact at_any Bd z hr xb gB cB Bd.length v1 v2 Y rfl hbl (HRB.fr hf List.not_mem_nil))
 obtain⟨f,hf⟩:∃f,f=askd Bd z a b:=⟨_,rfl⟩;have HFF:=hid (fun c=>show f c=(decide (fa≤c) && decide (c<fb)) by rw[hf,hfa,hfb,hxa,hxb];rfl);rw[←hf];have p0:=obj_cell h.o (i:=0) (v:=.slice (some ⟨gB,0,none⟩) Bd.length cB) rfl;have p1:=obj_cell h.o (i:=1) (v:=v1) rfl;have p2:=obj_cell h.o (i:=2) (v:=v2) rfl;have hPl:P<w.heap.size:=World.block_lt_of_cell? _ _ p0;obtain⟨gL,cL,hvL⟩:=owns_shape hK0 h.l;subst hvL;have HLP:=hid h;have HLO:=hid hlo;obtain⟨K,hKK⟩:∃K,K=Ls.length:=⟨_,rfl⟩;have HK:=hid hKK;rw[←hKK]at hK0 hK ⊢;obtain⟨nB,hnB⟩:∃nB,nB=Bd.length:=⟨_,rfl⟩;have HNB:=hid hnB;rw[←hnB]at H1 H2 H3 H4 hbl p0;clear h hr HRB hxa hxb hfa hfb hf hlo hKK hl0 hnB;go_enter Tryz.func64,Tryz.ntmps64;go_wp2_with fail;go_cut [7]from 13 to 99 (fun v wx=>∃bf,v=.pointer (some ⟨bf,0,none⟩)∧Hid (wx.cell? ⟨bf,0,none⟩=some (.int .i64 (fa:Nat))∧Fr [] w wx))
 case first =>
  go_region_held (fun wz=>wz.cell? ⟨P,0,none⟩=some (.slice (some ⟨gB,0,none⟩) nB cB)∧wz.cell? ⟨P,1,none⟩=some v1∧wz.cell? ⟨P,2,none⟩=some v2) (first | exact HS1 | exact And.intro (HK9.out.cell p0 List.not_mem_nil) (And.intro (HK9.out.cell p1 List.not_mem_nil) (HK9.out.cell p2 List.not_mem_nil)) | exact And.intro (HK8.out.cell p0 List.not_mem_nil) (And.intro (HK8.out.cell p1 List.not_mem_nil) (HK8.out.cell p2 List.not_mem_nil)) | exact And.intro (HK7.out.cell p0 List.not_mem_nil) (And.intro (HK7.out.cell p1 List.not_mem_nil) (HK7.out.cell p2 List.not_mem_nil)) | go_keep)
   (first
     | (go_at_call 40;refine(H1.out _ ?fa).mono ?_;(case fa=>(first | exact(Fr.refl [] w).drew | exact fr_drewN _ _ | exact(fr_drewN _ _).alloc _ | exact(Fr.refl [] w).drew.alloc _ | exact((Fr.refl [] w).drew.alloc _).drewN _ | exact((Fr.refl [] w).alloc _).drewN _));rintro e w1 ⟨rfl,q,rfl⟩)
     | (go_at_call 100;refine(H3.out _ ?fa).mono ?_;(case fa=>(first | exact(Fr.refl [] w).drew | exact fr_drewN _ _ | exact(fr_drewN _ _).alloc _ | exact(Fr.refl [] w).drew.alloc _ | exact((Fr.refl [] w).drew.alloc _).drewN _ | exact((Fr.refl [] w).alloc _).drewN _));rintro e w2 ⟨rfl,hf2⟩;have HG2:=hid (show Fr [] w w2 from Fr.trans (by(first | exact(Fr.refl [] w).drew | exact fr_drewN _ _ | exact(fr_drewN _ _).alloc _ | exact(Fr.refl [] w).drew.alloc _ | exact((Fr.refl [] w).drew.alloc _).drewN _ | exact((Fr.refl [] w).alloc _).drewN _)) hf2);have HS1:=And.intro (HG2.out.cell p0 List.not_mem_nil) (And.intro (HG2.out.cell p1 List.not_mem_nil) (HG2.out.cell p2 List.not_mem_nil));(first | (have HOB:=hid (show w2.heap[w.heap.size]?=some (.cells #[.int .i64 0] 3 (0,0))from by first | exact obj_fr (obj_new (w.drewN _) _) hf2 List.not_mem_nil | exact obj_fr (obj_fr (obj_new w.drew _) (fr_drewN _ _) List.not_mem_nil) hf2 List.not_mem_nil);have b0:=obj_cell HOB.out (i:=0) (v:=.int .i64 0) rfl;have k0:=obj_froz HOB.out 0) | skip);have HK9:=hid (Fr.set_new (b:=w.heap.size) (i:=0) (v:=.int .i64 (fa:Nat)) HG2.out (Nat.le_refl _));have HK7:=hid (show Fr [] w (w2.alloc (.cells #[.int .i64 0] 3))from HG2.out.alloc _);have HK8:=hid (Fr.set_new (b:=w2.heap.size) (i:=0) (v:=.int .i64 (fa:Nat)) HK7.out HG2.out.size);clear hf2))
  all_goals (
   go_wp2
   go_meet
   first | exact⟨_,rfl,hid ⟨World.cell?_setCell_same _ _ _ b0,HK9.out⟩⟩ | exact⟨_,rfl,hid ⟨obj_cell (obj_new w2 _) rfl,HG2.out.alloc _⟩⟩)
 case rest =>
  obtain⟨bf,rfl,HB⟩:=hcut;obtain⟨w3,hw3⟩:∃w3,w3=wc:=⟨_,rfl⟩;rw[←hw3]at HB ⊢;have HF3:=hid HB.out.2;have HBF:=hid HB.out.1;have q0:=HF3.out.cell p0 List.not_mem_nil;have q1:=HF3.out.cell p1 List.not_mem_nil;have q2:=HF3.out.cell p2 List.not_mem_nil;have hPl3:P<w3.heap.size:=World.block_lt_of_cell? _ _ q0;clear hw3 HB H1 H3 p0 p1 p2;go_wp2_with fail;go_cut [8]from 13 to 99 (fun v wx=>∃bt,v=.pointer (some ⟨bt,0,none⟩)∧Hid (wx.cell? ⟨bt,0,none⟩=some (.int .i64 (fb:Nat))∧Fr [] w3 wx))
  case first =>
   go_region_held (fun wz=>wz.cell? ⟨P,0,none⟩=some (.slice (some ⟨gB,0,none⟩) nB cB)∧wz.cell? ⟨P,1,none⟩=some v1∧wz.cell? ⟨P,2,none⟩=some v2) (first | exact HS1 | exact And.intro (HK9.out.cell q0 List.not_mem_nil) (And.intro (HK9.out.cell q1 List.not_mem_nil) (HK9.out.cell q2 List.not_mem_nil)) | exact And.intro (HK8.out.cell q0 List.not_mem_nil) (And.intro (HK8.out.cell q1 List.not_mem_nil) (HK8.out.cell q2 List.not_mem_nil)) | exact And.intro (HK7.out.cell q0 List.not_mem_nil) (And.intro (HK7.out.cell q1 List.not_mem_nil) (HK7.out.cell q2 List.not_mem_nil)) | go_keep)
    (first
      | (go_at_call 40;refine(H2.out _ ?fa).mono ?_;(case fa=>refine HF3.out.trans ?_;(first | exact(Fr.refl [] w3).drew | exact fr_drewN _ _ | exact(fr_drewN _ _).alloc _ | exact(Fr.refl [] w3).drew.alloc _ | exact((Fr.refl [] w3).drew.alloc _).drewN _ | exact((Fr.refl [] w3).alloc _).drewN _));rintro e w1 ⟨rfl,q,rfl⟩)
      | (go_at_call 100;refine(H4.out _ ?fa).mono ?_;(case fa=>refine HF3.out.trans ?_;(first | exact(Fr.refl [] w3).drew | exact fr_drewN _ _ | exact(fr_drewN _ _).alloc _ | exact(Fr.refl [] w3).drew.alloc _ | exact((Fr.refl [] w3).drew.alloc _).drewN _ | exact((Fr.refl [] w3).alloc _).drewN _));rintro e w2 ⟨rfl,hf2⟩;have HG2:=hid (show Fr [] w3 w2 from Fr.trans (by(first | exact(Fr.refl [] w3).drew | exact fr_drewN _ _ | exact(fr_drewN _ _).alloc _ | exact(Fr.refl [] w3).drew.alloc _ | exact((Fr.refl [] w3).drew.alloc _).drewN _ | exact((Fr.refl [] w3).alloc _).drewN _)) hf2);have HS1:=And.intro (HG2.out.cell q0 List.not_mem_nil) (And.intro (HG2.out.cell q1 List.not_mem_nil) (HG2.out.cell q2 List.not_mem_nil));(first | (have HOB:=hid (show w2.heap[w3.heap.size]?=some (.cells #[.int .i64 0] 3 (0,0))from by first | exact obj_fr (obj_new (w3.drewN _) _) hf2 List.not_mem_nil | exact obj_fr (obj_fr (obj_new w3.drew _) (fr_drewN _ _) List.not_mem_nil) hf2 List.not_mem_nil);have b0:=obj_cell HOB.out (i:=0) (v:=.int .i64 0) rfl;have k0:=obj_froz HOB.out 0) | skip);have HK9:=hid (Fr.set_new (b:=w3.heap.size) (i:=0) (v:=.int .i64 (fb:Nat)) HG2.out (Nat.le_refl _));have HK7:=hid (show Fr [] w3 (w2.alloc (.cells #[.int .i64 0] 3))from HG2.out.alloc _);have HK8:=hid (Fr.set_new (b:=w2.heap.size) (i:=0) (v:=.int .i64 (fb:Nat)) HK7.out HG2.out.size);clear hf2))
   all_goals (
    go_wp2
    go_meet
    first | exact⟨_,rfl,hid ⟨World.cell?_setCell_same _ _ _ b0,HK9.out⟩⟩ | exact⟨_,rfl,hid ⟨obj_cell (obj_new w2 _) rfl,HG2.out.alloc _⟩⟩)
  case rest =>
   obtain⟨bt,rfl,HB⟩:=hcut;obtain⟨w4,hw4⟩:∃w4,w4=wc:=⟨_,rfl⟩;rw[←hw4]at HB ⊢;have HF4:=hid (HF3.out.trans HB.out.2);have HBT:=hid HB.out.1;have HBF4:=hid (HB.out.2.cell HBF.out List.not_mem_nil);clear hw4 HB H2 H4 q0 q1 q2 HBF;have hmf:∀(fn:Fn) (first cap:Array Value) (w:World),(Instr.makeFunc fn first cap).run Tryz.prog w=.ok (.func fn first cap) w:=fun _ _ _ _=>rfl
   have s3:=HF4.out.cell (obj_cell HLP.out.o (i:=3) (v:=.slice (some ⟨gL,0,none⟩) Ls.length cL) rfl) List.not_mem_nil;rw[←HK.out]at s3;go_wp2_with fail;have hi90:=info_parts info251;obtain⟨i0,hi,hz0,hz1,hz2⟩:=hi90
   have HSM:=hid (fun n (hn:n≤K)=>show(selL Ls f n).length≤401 * 1001 from Nat.le_trans (selL_small (f:=f) (d:=1000) (fun i=>by
    by_cases hi:i<Ls.length
    ·exact(HLO.out _ (lnN_mem hi)).1
    ·unfold lnN;rw[List.getElem?_eq_none (by omega)];exact Nat.zero_le _) n) (Nat.mul_le_mul (by omega) (Nat.le_refl _)))
   clear s3;go_loopw [10,47] (fun vo kk wr=>∃t:Nat,kk=.int .i64 t∧t≤K∧Hid (Fr [] w4 wr)∧Hid (wr.ownsRow w4.heap.size 251 5 vo (selL Ls f t).length (spCells (selL Ls f t)))) (fun _ kk _=>K - (intOf kk).toNat)
   case atStart=>exact⟨0,rfl,Nat.zero_le _,hid (Fr.refl _ _),hid (World.ownsRow_nil _ _ _ _)⟩
   case round =>
    obtain⟨t,rfl,htK,HFt,HOt⟩:=hrel;have HFw:=hid (HF4.out.trans HFt.out);by_cases htl:t<K
    ·have htI:(t:Int)<(K:Int):=by omega
     have HLt:=hid (HLP.out.fr HFw.out (fun k hk=>absurd hk List.not_mem_nil));obtain⟨U,_,hn⟩:=HLt.out.n;obtain⟨vO,vX,a1,a2,a3,a4,a5,a6,_,_⟩:=hn t _ (lnN_get' (by rw[←HK.out];exact htl));have hll:=HLt.out.l;have hmem:=lnN_mem (show t<Ls.length by rw[←HK.out];exact htl);obtain⟨hlo,hlx⟩:=HLO.out _ hmem;obtain⟨gX,cX,hvX⟩:=owns_shape (by rw[hlx];omega) a6;subst hvX;obtain⟨aO,cO,hvO⟩:=owns_slice a5;subst hvO;have hhl:=hll.1;have c0:wr.cell? ⟨gL,t * 4,none⟩=some (.int .i64 (lnN Ls t).f):=by rw[hll.cellAt _ (by have:=HK.out;omega)];exact a1
     have c1:wr.cell? ⟨gL,t * 4+1,none⟩=some (.int .i64 (lnN Ls t).t):=by rw[hll.cellAt _ (by have:=HK.out;omega)];exact a2
     have c2:wr.cell? ⟨gL,t * 4+2,none⟩=some (.slice aO (lnN Ls t).o.length cO):=by rw[hll.cellAt _ (by have:=HK.out;omega)];exact a3
     have c3:wr.cell? ⟨gL,t * 4+3,none⟩=some (.slice (some ⟨gX,0,none⟩) (lnN Ls t).x.length cX):=by rw[hll.cellAt _ (by have:=HK.out;omega)];exact a4
     obtain⟨o,ho⟩:∃o,o=(lnN Ls t).o:=⟨_,rfl⟩;obtain⟨x,hx⟩:∃x,x=(lnN Ls t).x:=⟨_,rfl⟩;rw[←ho]at a5 hlo hlx c2;rw[←hx]at a6 hlx c3;have HA5:=hid a5;have HXC:=hid (fun(Y:World) (hf:Fr [] wr Y) (k:Nat) (hk:k<x.length)=>show Y.cell? ⟨gX,k,none⟩=some (.int .i64 (nth x k))from hf.cell (by rw[a6.cellAt _ (by omega)];exact ints64_at hk) List.not_mem_nil);have HSE:=hid (show selL Ls f (t+1)=selL Ls f t++spL t x (Lay.parts f o) by rw[selL,ho,hx]);have hsz:=HSM.out t htK;have hsz1:=HSM.out (t+1) htl;rw[HSE.out,List.length_append]at hsz1;generalize (lnN Ls t).f=lf at *;generalize (lnN Ls t).t=lt at *;have HLX:=hid hlx;have HPR:=hid (prtL_ok f o)
     have HPT:=hid (fun(Y:World) (hf:Fr [] wr Y)=>parts_gen 104 #[.pointer (some ⟨bf,0,none⟩),.pointer (some ⟨bt,0,none⟩)] f o B _ Y hlo (owns_fr0 HA5.out hf) enters160 (fun Z hZ i hi=>by
      rw[HFF.out]
      exact sel1_any fa fb _ bf bt Z ((HFt.out.trans (hf.trans hZ)).cell HBF4.out List.not_mem_nil) ((HFt.out.trans (hf.trans hZ)).cell HBT.out List.not_mem_nil)))
     obtain⟨lx,hlxx⟩:∃lx,lx=x.length:=⟨_,rfl⟩;have HLXX:=hid hlxx;rw[←hlxx]at c3;have HPL:=hid (show(Lay.parts f o).length≤1001 from Nat.le_trans (partsTo_len f o (o.length+1)).1 (by omega));obtain⟨lo,hloo⟩:∃lo,lo=o.length:=⟨_,rfl⟩;rw[←hloo]at HPT c2;have HSP:=hid (fun(Y:World) (v:Value) (B':Nat) (hf:Fr [] wr Y) (h9:Y.ownsRow B' 249 2 v (Lay.parts f o).length (ptCells (Lay.parts f o)))=>spans_any t lf lt (.slice aO o.length cO) gX cX x (Lay.parts f o) v B' Y (HXC.out Y hf) h9 (fun p hp=>by have h8:=HPR.out.inn p hp;have:=HLX.out;exact⟨h8.1,by omega⟩) (by have:=HPL.out;omega));rw[←hlxx,←hloo]at HSP;obtain⟨L,hL⟩:∃L,L=Lay.parts f o:=⟨_,rfl⟩;obtain⟨M,hM⟩:∃M,M=spL t x L:=⟨_,rfl⟩;rw[←hL]at HPT HSP HSE hsz1;rw[←hM]at HSP HSE hsz1;obtain⟨S0,hS0⟩:∃S0,S0=selL Ls f t:=⟨_,rfl⟩;rw[←hS0]at HOt HSE hsz hsz1;clear hn hll a1 a2 a3 a4 a5 a6 hlxx hloo hmem hlo hlx ho hx hL hM hS0;go_wp2_with fail;clear c0 c1 c2 c3;obtain⟨w5,hw5⟩:∃w5,w5=wr.alloc (.cells #[.int .i64 lf,.int .i64 lt,.slice aO lo cO,.slice (some ⟨gX,0,none⟩) lx cX] 69):=⟨_,rfl⟩;obtain⟨gP,hgP⟩:∃gP,gP=wr.heap.size:=⟨_,rfl⟩;have HF5:=hid (show Fr [] wr w5 by rw[hw5];exact(Fr.refl [] wr).alloc _);have HP5:=hid (show w5.heap[gP]?=some (.cells #[.int .i64 lf,.int .i64 lt,.slice aO lo cO,.slice (some ⟨gX,0,none⟩) lx cX] 69 (0,0)) by rw[hw5,hgP];exact obj_new wr _);have hw5s:w5.heap.size=gP+1:=by rw[hw5,hgP];simp
     have hwl:=HFt.out.size;have HLT:=hid (fun g (hg:u10.ownBlock=some g)=>show w4.heap.size≤g∧g<gP by rw[hgP];exact HOt.out.lt g hg);have HO5:=hid (owns_fr0 HOt.out HF5.out);rw[←hw5,←hgP];rw[←hgP]at hwl;clear hw5 hgP
     have HKP:=hid (fun(w1' w':World) (hf:Fr [] w5 w1') (hg:w1'.grownBy w' u10.ownBlock)=>show w'.cell? ⟨gP,0,none⟩=some (.int .i64 lf)∧w'.cell? ⟨gP,1,none⟩=some (.int .i64 lt)∧w'.cell? ⟨gP,2,none⟩=some (.slice aO lo cO)∧w'.cell? ⟨gP,3,none⟩=some (.slice (some ⟨gX,0,none⟩) lx cX)from by
      have hs:=hf.size
      have hob:=obj_fr HP5.out hf List.not_mem_nil
      have hob':=(hg.block gP (by omega) (fun e=>by have:=HLT.out gP e.symm;omega)).trans hob
      exact⟨obj_cell hob' (i:=0) rfl,obj_cell hob' (i:=1) rfl,obj_cell hob' (i:=2) rfl,obj_cell hob' (i:=3) rfl⟩)
     have HKF:=hid (fun(w':World) (hf:Fr [] w5 w')=>HKP.out w' w' hf ⟨rfl,rfl,rfl,Nat.le_refl _,fun _ _ _=>rfl⟩);obtain⟨s0,s1,s2,s3⟩:=HKF.out w5 (Fr.refl _ _);go_region_held_law (fun w'=>w'.cell? ⟨gP,0,none⟩=some (.int .i64 lf)∧w'.cell? ⟨gP,1,none⟩=some (.int .i64 lt)∧w'.cell? ⟨gP,2,none⟩=some (.slice aO lo cO)∧w'.cell? ⟨gP,3,none⟩=some (.slice (some ⟨gX,0,none⟩) lx cX)) (first | exact HS1 | go_keep)
      (first
        | (go_at_call 106;refine(HPT.out _ ?fa).mono ?_;(case fa=>first | exact HF5.out.drew | exact HF5.out);rintro e w6 ⟨vP,rfl,own6,hf6⟩;have HG6:=hid (show Fr [] w5 w6 from Fr.trans (by first | exact(Fr.refl [] w5).drew | exact Fr.refl [] w5) hf6);have HO6:=hid own6;have HS1:=HKF.out w6 HG6.out;clear own6 hf6)
        | (go_at_call 105;refine(HSP.out w6 vP _ (HF5.out.trans HG6.out) HO6.out).mono ?_;rintro e w7 ⟨vM,rfl,own7,hf7⟩;have HG7:=hid (HG6.out.trans hf7);have HO7:=hid own7;have HS1:=HKF.out w7 HG7.out;clear own7 hf7)
        | (refine step_appo rfl (.tmp 52) (.tmp 59) 29 rfl w4.heap.size 251 i0 _ 5 40 Tryz.underlying29 hi hz0 hz1 hz2 rfl (by decide) u10 S0.length (spCells S0) ?q1 ?q2 w6.heap.size vM M.length (spCells M) ?q3 ?q4 (spCells_one _) (by unfold maxLen;omega) (by omega) ?q5 ?_;(case q1=>first | rfl | simp[Act.eval]);(case q2=>exact owns_fr0 HO5.out HG7.out);(case q3=>first | rfl | simp[Act.eval]);(case q4=>exact HO7.out);(case q5=>have:=HG7.out.size;omega);intro v' w' hown hgrow;have HG1:=hid hown;have HG2:=hid hgrow;have HS1:=HKP.out _ _ HG7.out hgrow;clear hown hgrow))
     all_goals (
      have HF9:=hid (show Fr [] w4 w' from Fr.grown ((HFt.out.trans HF5.out).trans HG7.out) HG2.out (fun g hg=>by have:=HLT.out g hg;omega))
      have HO9:=hid (show w'.ownsRow w4.heap.size 251 5 v' (selL Ls f (t+1)).length (spCells (selL Ls f (t+1))) by rw[HSE.out,List.length_append,←spCells_app];exact HG1.out)
      go_wp2
      go_roundw
      case rel=>exact⟨t+1,by go_num,by omega,HF9,HO9⟩
      case measure=>simp[intOf];omega)
    ·obtain rfl:t=K:=by omega
     have htI:¬(t:Int)<(t:Int):=by omega
     go_wp2;go_ret;exact⟨_,rfl,owns_low HOt.out HF4.out.size,HFw.out⟩
end Go.Proofs.YtnakejhohdbfdacGreatDoor

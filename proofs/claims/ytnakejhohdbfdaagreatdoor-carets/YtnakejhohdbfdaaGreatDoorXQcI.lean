import Derived.Test.YtnakejhohdbfdaaGreatDoorXQaG
namespace Go.Proofs.YtnakejhohdbfdaaGreatDoor
open Go.RowKit Lev Lay Bnd
set_option maxRecDepth 10000 in
set_option maxHeartbeats 8000000 in
theorem gapD_any (WB:World)(U lb:Nat)(s:ByteArray)(bs:Int)(vC vM:Value)(Bd V X:List Int)(Ls:List Ln)(hm:List Value)(n:Nat)(off o:Int)(back bk:Bool)(I Q:Nat)(w:World)(h:LD WB w U lb s bs vC vM (clP Bd V X V.length) Ls hm)(hs:s.size≤1000000)(hT:Floor w)(hend:Dec.Ends s n)(T:Tame Bd V Ls)(hv4:V.length≤400)(hK:Ls.length≤400)(hlo:∀l∈Ls,l.o.length≤1000)(hp:placeL (bnd s n) (s.size:Nat) off back=(o,bk))
 (hI:I<Ls.length) (hQ:Q<(lnN Ls I).o.length) (hit:nth Bd (if bk=true then nix (lnN Ls I).o Q+1 else nix (lnN Ls I).o Q)=o)
 (hno:∀i k,i<Ls.length→k<(lnN Ls i).o.length→(i<I∨i=I∧k<Q)→nth Bd (if bk=true then nix (lnN Ls i).o k+1 else nix (lnN Ls i).o k)≠o) :
 Calls Tryz.prog 20 #[.pointer (some ⟨lb,0,none⟩),.agg #[.int .i64 off,.bool back]] w fun e w'=>e=.returned (.agg #[.int .i64 (I:Nat),.int .i64 ((if bk=(nth V (nix (lnN Ls I).o Q) % 2 == 1)then Q else Q+1:Nat):Int)])∧Fr [] w w':=by
 have H18:=hid (fun(Y:World) (hf:Fr [] w Y)=>placeD_any WB U lb s bs vC vM (clP Bd V X V.length) Ls hm n off back Y (h.fr0 hf) hs (hT.fr hf) hend);rw[hp]at H18;have HLN:=hid (fun(i:Nat) (hi:i<Ls.length)=>h.inn i _ (lnN_get hi));have HOL:=hid h.ownL;obtain⟨gL,cL,hvL⟩:=owns_shape (by omega) h.ownL;subst hvL;have HOC:=hid h.ownC;rw[clP_len]at HOC;have hvp:0<V.length:=by have:=T.ob _ (lnN_mem hI) _ (nix_mem hQ);omega
 obtain⟨gC,cC,hvC⟩:=owns_shape hvp HOC.out;subst hvC;have HOB:=hid (fun(i:Nat) (hi:i<Ls.length)=>T.ob _ (lnN_mem hi));have HLO:=hid (fun(i:Nat) (hi:i<Ls.length)=>hlo _ (lnN_mem hi));have HVB:=hid T.vb;have HHIT:=hid hit;have HNO:=hid hno;have HLB:=hid h.obj;have hPl:=obj_lt h.obj;have HQ:=hid hQ;obtain⟨gp,hgp⟩:∃gp:Nat,gp=(if bk=(nth V (nix (lnN Ls I).o Q) % 2 == 1)then Q else Q+1:Nat):=⟨_,rfl⟩;rw[←hgp];have HGP:=hid hgp;have hQ1:Q≤1000:=by have:=hlo _ (lnN_mem hI);omega
 obtain⟨K,hK'⟩:∃K,K=Ls.length:=⟨_,rfl⟩;rw[←hK']at HLN HOL hK hI HOB HLO HNO HLB;obtain⟨w2,hw2⟩:∃w2,w2=(w.alloc (.cells #[.int .i64 off,.bool back] 55)).alloc (.cells #[.int .i64 0,.int .i64 0] 58):=⟨_,rfl⟩;have HF2:=hid (show Fr [] w w2 by rw[hw2];(repeat(first | refine Fr.set_new ?_ (by omega) | refine Fr.drewN ?_ _ | refine Fr.drew ?_ | with_reducible exact Fr.refl _ _ | refine Fr.alloc ?_ _)));have HO2:=hid (show w2.heap[w.heap.size]?=some (.cells #[.int .i64 off,.bool back] 55 (0,0)) by rw[hw2];exact obj_fr (obj_new w _) ((Fr.refl [] _).alloc _) List.not_mem_nil)
 have HR2:=hid (show w2.heap[w.heap.size+1]?=some (.cells #[.int .i64 0,.int .i64 0] 58 (0,0)) by
  have hs:(w.alloc (.cells #[.int .i64 off,.bool back] 55)).heap.size=w.heap.size+1:=by simp
  have h0:=obj_new (w.alloc (.cells #[.int .i64 off,.bool back] 55)) (.cells #[.int .i64 0,.int .i64 0] 58)
  rw[hs]at h0
  rw[hw2];exact h0)
 clear h hT hend T hlo hp hit hno hQ hgp hK' hs;go_enter Tryz.func20,Tryz.ntmps20;have HW2:=hid hw2;clear hw2;go_wp2_with fail;rw[←HW2.out];refine(H18.out _ HF2.out).mono ?_;rintro e w3 ⟨rfl,hf3⟩;have HO3:=hid (obj_fr HO2.out hf3 List.not_mem_nil);have HR3:=hid (obj_fr HR2.out hf3 List.not_mem_nil);have HF3:=hid (HF2.out.trans hf3);have z0:=obj_cell HO3.out (i:=0) (v:=.int .i64 off) rfl;have z1:=obj_cell HO3.out (i:=1) (v:=.bool back) rfl;have f0:=obj_froz HO3.out 0;have f1:=obj_froz HO3.out 1;clear hf3;go_wp2_with fail;obtain⟨w4,hw4⟩:∃w4,w4=(w3.setCell ⟨w.heap.size,0,none⟩ (.int .i64 o)).setCell ⟨w.heap.size,1,none⟩ (.bool bk):=⟨_,rfl⟩;have HO4:=hid (show w4.heap[w.heap.size]?=some (.cells #[.int .i64 o,.bool bk] 55 (0,0)) by rw[hw4];exact obj_set (obj_set HO3.out 0 _) 1 _);have HR4:=hid (show w4.heap[w.heap.size+1]?=some (.cells #[.int .i64 0,.int .i64 0] 58 (0,0)) by rw[hw4];exact obj_fr HR3.out (show Fr [w.heap.size] w3 _ by(repeat(first | refine Fr.set ?_ (List.mem_singleton.2 rfl) _ | refine Fr.drewN ?_ _ | refine Fr.drew ?_ | with_reducible exact Fr.refl _ _ | refine Fr.alloc ?_ _))) (by simp));have HF4:=hid (show Fr [] w w4 by rw[hw4];exact Fr.set_new (Fr.set_new HF3.out (by omega)) (by omega));rw[←hw4];clear hw4 z0 z1 f0 f1;go_loopw [5] (fun vi wr=>∃i:Nat,vi=.int .i64 i∧i≤I∧Hid (Fr [] w4 wr)) (fun vi _=>I+1 - (intOf vi).toNat)
 case atStart=>exact⟨0,rfl,Nat.zero_le _,hid (Fr.refl _ _)⟩
 case round =>
  obtain⟨i,rfl,hiI,HR⟩:=hrel;have hiK:i<K:=by omega
  have hiKI:(i:Int)<(K:Int):=by omega
  obtain⟨vO,vX,_,_,a3,_,a5,_⟩:=HLN.out i hiK;obtain⟨aO,cO,hvO⟩:=owns_slice a5;subst hvO;have C3:=hid (show w.cell? ⟨gL,i * 4+2,none⟩=some (.slice aO (lnN Ls i).o.length cO) by rw[HOL.out.cellAt _ (by omega)];exact a3);have HOO:=hid a5;have HNOi:=hid (fun(k:Nat) (hk:k<(lnN Ls i).o.length) (h:i<I∨i=I∧k<Q)=>HNO.out i k hiK hk h);have HOBi:=hid (HOB.out i hiK);have hlo1:=HLO.out i hiK;have HQi:=hid (show i=I→Q<(lnN Ls i).o.length∧nth Bd (if bk=true then nix (lnN Ls i).o Q+1 else nix (lnN Ls i).o Q)=o∧gp=(if bk=(nth V (nix (lnN Ls i).o Q) % 2 == 1)then Q else Q+1:Nat)from fun e=>by rw[e];exact⟨HQ.out,HHIT.out,HGP.out⟩);obtain⟨O,hO⟩:∃O,O=(lnN Ls i).o:=⟨_,rfl⟩;rw[←hO]at C3 HOO HNOi HOBi hlo1 HQi;obtain⟨lo,hlo'⟩:∃lo,lo=O.length:=⟨_,rfl⟩;have HLL:=hid hlo';rw[←hlo']at C3 HOO HNOi hlo1 HQi;have m3:=obj_cell (obj_fr HLB.out (HF4.out.trans HR.out) List.not_mem_nil) (i:=3) (v:=.slice (some ⟨gL,0,none⟩) K cL) rfl;clear a3 a5 hO hlo';go_wp2_with fail;clear m3;go_loopw [6] (fun vk wr2=>∃k:Nat,vk=.int .i64 k∧k≤lo∧Hid (i=I→k≤Q)∧Hid (Fr [] w4 wr2)) (fun vk _=>lo - (intOf vk).toNat)
  case atStart=>exact⟨0,rfl,Nat.zero_le _,hid (fun _=>Nat.zero_le _),HR⟩
  case round =>
   obtain⟨k,rfl,hk,HKQ,HR2⟩:=hrel;have FW:=HF4.out.trans HR2.out;have m2:=obj_cell (obj_fr HLB.out FW List.not_mem_nil) (i:=2) (v:=.slice (some ⟨gC,0,none⟩) V.length cC) rfl;have m3:=obj_cell (obj_fr HLB.out FW List.not_mem_nil) (i:=3) (v:=.slice (some ⟨gL,0,none⟩) K cL) rfl;have c3:=FW.cell C3.out List.not_mem_nil;have HOr:=hid (obj_fr HO4.out HR2.out List.not_mem_nil);have s0:=obj_cell HOr.out (i:=0) (v:=.int .i64 o) rfl;have s1:=obj_cell HOr.out (i:=1) (v:=.bool bk) rfl;by_cases hlt:k<lo
   ·have hkI:(k:Int)<(lo:Int):=by omega
    obtain⟨gO,cO',hvO⟩:=owns_shape (by omega) HOO.out;cases hvO;have HOO2:=hid (owns_fr0 HOO.out FW);have HOC2:=hid (owns_fr0 HOC.out FW);obtain⟨c0,hc0⟩:∃c0,c0=nix O k:=⟨_,rfl⟩;have d0:wr.cell? ⟨gO,k,none⟩=some (.int .i64 (c0:Nat)):=by rw[hc0,HOO2.out.cellAt k (by omega)];exact intsN_at (by rw[←HLL.out];exact hlt)
    have hcV:c0<V.length:=by rw[hc0];exact HOBi.out (nix O k) (nix_mem (by rw[←HLL.out];exact hlt))
    obtain⟨e0,e1,e2,e3⟩:=clCells_at _ c0 _ (clP_at Bd V X hcV);have y0:wr.cell? ⟨gC,c0 * 4,none⟩=some (.int .i64 (nth Bd c0)):=by rw[HOC2.out.cellAt _ (by omega)];exact e0
    have y1:wr.cell? ⟨gC,c0 * 4+1,none⟩=some (.int .i64 (nth Bd (c0+1))):=by rw[HOC2.out.cellAt _ (by omega)];exact e1
    have y2:wr.cell? ⟨gC,c0 * 4+2,none⟩=some (.int .i64 (nth V c0)):=by rw[HOC2.out.cellAt _ (by omega)];exact e2
    have y3:wr.cell? ⟨gC,c0 * 4+3,none⟩=some (.int .i64 (nth X c0)):=by rw[HOC2.out.cellAt _ (by omega)];exact e3
    have hlv:=(HVB.out c0).1;have hcI:(c0:Int)<(V.length:Int):=by omega
    have HNE:=hid (show ¬(i=I∧k=Q)→nth Bd (if bk=true then c0+1 else c0)≠o from fun hne=>by
     rw[hc0]
     exact HNOi.out k hlt (by have h1:=HKQ.out;by_cases hi1:i=I <;> omega))
    have HYE:=hid (show i=I∧k=Q→nth Bd (if bk=true then c0+1 else c0)=o∧gp=(if bk=(nth V c0 % 2 == 1)then k else k+1:Nat)from fun he=>by
     have h:=HQi.out he.1
     rw[hc0,he.2];exact h.2)
    have hsel:nth Bd (if bk=true then c0+1 else c0)=if bk=true then nth Bd (c0+1)else nth Bd c0:=by split <;> rfl
    rw[hsel]at HNE HYE;clear hsel;have hgC:gC<wr.heap.size:=World.block_lt_of_cell? _ _ y0;have hgO:gO<wr.heap.size:=World.block_lt_of_cell? _ _ d0;have hgL:gL<wr.heap.size:=World.block_lt_of_cell? _ _ c3;have hlb2:lb<wr.heap.size:=World.block_lt_of_cell? _ _ m2;have hrb:w.heap.size<wr.heap.size:=World.block_lt_of_cell? _ _ s0;have HRr:=hid (obj_fr HR4.out HR2.out List.not_mem_nil);have r0:=obj_cell HRr.out (i:=0) (v:=.int .i64 0) rfl;have r1:=obj_cell HRr.out (i:=1) (v:=.int .i64 0) rfl;have g0:=obj_froz HRr.out 0;have g1:=obj_froz HRr.out 1;have hrb2:w.heap.size+1<wr.heap.size:=World.block_lt_of_cell? _ _ r0;have hn1:gO≠wr.heap.size:=by omega
    have hn2:gC≠wr.heap.size:=by omega
    have hn3:lb≠wr.heap.size:=by omega
    have hn4:gL≠wr.heap.size:=by omega
    have hn5:w.heap.size≠wr.heap.size:=by omega
    have hn6:w.heap.size+1≠wr.heap.size:=by omega
    generalize nth Bd c0=x0 at *;generalize nth Bd (c0+1)=x1 at *;generalize nth V c0=lv at *;generalize nth X c0=x3 at *;clear e0 e1 e2 e3 hc0;go_wp2_with fail;go_region;obtain⟨wx,hwx⟩:∃wx,wx=(wr.alloc (.cells #[.int .i64 x0,.int .i64 x1,.int .i64 lv,.int .i64 x3] 48)).drew:=⟨_,rfl⟩;have HFx:=hid (show Fr [] w4 wx by rw[hwx];exact(HR2.out.alloc _).drew);have HOx:=hid (show wx.heap[wr.heap.size]?=some (.cells #[.int .i64 x0,.int .i64 x1,.int .i64 lv,.int .i64 x3] 48 (0,0)) by rw[hwx];exact obj_new wr _);have HOc:=hid (obj_fr HO4.out HFx.out List.not_mem_nil);have HRx:=hid (obj_fr HR4.out HFx.out List.not_mem_nil);rw[←hwx];clear hwx d0 y0 y1 y2 y3 m2 m3 c3 s0 s1 r0 r1 g0 g1 hn1 hn2 hn3 hn4 hn5 hn6;have s0:=obj_cell HOc.out (i:=0) (v:=.int .i64 o) rfl;have s1:=obj_cell HOc.out (i:=1) (v:=.bool bk) rfl;have t0:=obj_cell HOx.out (i:=0) (v:=.int .i64 x0) rfl;have t1:=obj_cell HOx.out (i:=1) (v:=.int .i64 x1) rfl;have t2:=obj_cell HOx.out (i:=2) (v:=.int .i64 lv) rfl;have r0:=obj_cell HRx.out (i:=0) (v:=.int .i64 0) rfl;have r1:=obj_cell HRx.out (i:=1) (v:=.int .i64 0) rfl;have g0:=obj_froz HRx.out 0;have g1:=obj_froz HRx.out 1;have hlm:lv % 2=0∨lv % 2=1:=by omega
    by_cases hh:i=I∧k=Q
    ·obtain⟨hsel,hge⟩:=HYE.out hh
     have HGE:=hid hge;obtain⟨rfl,rfl⟩:=hh;clear HYE HNE hge HGP HQi HHIT;cases bk
     ·obtain rfl:x0=o:=by simpa using hsel
      clear hsel
      rcases hlm with hlm | hlm
      ·have hgp:=HGE.out
       rw[hlm]at hgp;have hgk:gp=k:=by rw[hgp];rfl
       clear hgp HGE;subst hgk;go_wp2;refine bodyPost_ret (results_cell_row (t:=58) (fr:=(0,0)) rfl _ _ (w.heap.size+1) _ _ rfl (obj_set (obj_set HRx.out 0 _) 1 _) Tryz.underlying58 rfl (by kernel_rfl)) rfl ?_;exact⟨rfl,Fr.set_new (Fr.set_new (HF4.out.trans HFx.out) (by omega)) (by omega)⟩
      ·have hgp:=HGE.out
       rw[hlm]at hgp;have hwk:IntKind.i64.wrap ((k:Int)+1)=((gp:Nat):Int):=by rw[IntKind.wrap_i64,hgp];simp;omega
       clear hgp;go_wp2;refine bodyPost_ret (results_cell_row (t:=58) (fr:=(0,0)) rfl _ _ (w.heap.size+1) _ _ rfl (obj_set (obj_set HRx.out 0 _) 1 _) Tryz.underlying58 rfl (by kernel_rfl)) rfl ?_;exact⟨rfl,Fr.set_new (Fr.set_new (HF4.out.trans HFx.out) (by omega)) (by omega)⟩
     ·obtain rfl:x1=o:=by simpa using hsel
      clear hsel
      rcases hlm with hlm | hlm
      ·have hgp:=HGE.out
       rw[hlm]at hgp;have hwk:IntKind.i64.wrap ((k:Int)+1)=((gp:Nat):Int):=by rw[IntKind.wrap_i64,hgp];simp;omega
       clear hgp;go_wp2;refine bodyPost_ret (results_cell_row (t:=58) (fr:=(0,0)) rfl _ _ (w.heap.size+1) _ _ rfl (obj_set (obj_set HRx.out 0 _) 1 _) Tryz.underlying58 rfl (by kernel_rfl)) rfl ?_;exact⟨rfl,Fr.set_new (Fr.set_new (HF4.out.trans HFx.out) (by omega)) (by omega)⟩
      ·have hgp:=HGE.out
       rw[hlm]at hgp;have hgk:gp=k:=by rw[hgp];rfl
       clear hgp HGE;subst hgk;go_wp2;refine bodyPost_ret (results_cell_row (t:=58) (fr:=(0,0)) rfl _ _ (w.heap.size+1) _ _ rfl (obj_set (obj_set HRx.out 0 _) 1 _) Tryz.underlying58 rfl (by kernel_rfl)) rfl ?_;exact⟨rfl,Fr.set_new (Fr.set_new (HF4.out.trans HFx.out) (by omega)) (by omega)⟩
    ·have HNE2:=hid (HNE.out hh)
     have HH:=hid hh;clear HYE HNE hh;cases bk
     ·have hne:x0≠o:=by have h:=HNE2.out;simpa using h
      have hneb:(x0 == o)=false:=by simpa using hne
      go_wp2;go_roundw
      case rel=>exact⟨k+1,rfl,by omega,hid (fun e=>by have h1:=HKQ.out e;have h2:=HH.out;omega),HFx⟩
      case measure=>simp[intOf];omega
     ·have hne:x1≠o:=by have h:=HNE2.out;simpa using h
      have hneb:(x1 == o)=false:=by simpa using hne
      go_wp2;go_roundw
      case rel=>exact⟨k+1,rfl,by omega,hid (fun e=>by have h1:=HKQ.out e;have h2:=HH.out;omega),HFx⟩
      case measure=>simp[intOf];omega
   ·have hkI:¬(k:Int)<(lo:Int):=by omega
    have HNI:=hid (show i≠I from fun e=>by have h1:=(HQi.out e).1;have h2:=HKQ.out e;omega);go_wp2;go_roundw
    case rel=>exact⟨i+1,by go_num,by have:=HNI.out;omega,HR2⟩
    case measure=>simp[intOf];omega
end Go.Proofs.YtnakejhohdbfdaaGreatDoor

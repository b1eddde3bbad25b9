import Derived.Test.YtnakejhohdbfdabGreatDoorKQcB
namespace Go.Proofs.YtnakejhohdbfdabGreatDoor
open Go.RowKit Lev Lay Bnd
set_option maxRecDepth 10000 in
set_option maxHeartbeats 4000000 in
theorem gapP_any (B P:Nat)(Bd V X:List Int)(r z:Int)(Ls:List Ln)(v0 v1 v2 vL:Value)(hs:List Value)(off o:Int)(back bk:Bool)(c i k:Nat)(w:World)(h:LP w B P Bd V X r Ls v0 v1 v2 vL hs)(hr:Rises Bd z)(hz:0≤z)(T:Tame Bd V Ls)(hbd:Bd.length=V.length+1)(hv4:V.length≤400)(hK:Ls.length≤400)(hlo:∀l∈Ls,l.o.length≤1000)(hp:placeL Bd z off back=(o,bk))(hc:c<V.length)(hcc:cidx Bd o=if bk=true then c+1 else c)(hi:Holds Ls (nth Bd c) i)(hk:Stands (lnN Ls i).o c k) :
 Calls Tryz.prog 84 #[.pointer (some ⟨P,0,none⟩),.agg #[.int .i64 off,.bool back]] w fun e w'=>e=.returned (.agg #[.int .i64 (i:Nat),.int .i64 ((if bk=(nth V c % 2 == 1)then k else k+1:Nat):Int)])∧Fr [] w w':=by
 obtain⟨gB,cB,hvB,_,HRB⟩:=h.b.row (by omega);obtain⟨gV,cV,hvV,_,HRV⟩:=h.v.row (by omega);have hil:=hi.lt;have hmem:=lnN_mem hil;obtain⟨U,hU,hn⟩:=h.n;obtain⟨gL,cL,hvL⟩:=owns_shape (by omega) h.l;obtain⟨vO,vX,_,_,a3,_,a5,_,_⟩:=hn i _ (lnN_get hil);have hkl:=hk.lt;obtain⟨gO,cO,hvO⟩:=owns_shape (by omega) a5;subst hvB hvV hvL hvO;have HRO:=hid (owns_rowN a5 rfl);have H57:=hid (fun(Y:World) (hf:Fr [] w Y)=>placeP_any B P Bd V X r z Ls _ _ v2 _ hs off back Y (h.fr hf (fun k hk=>absurd hk List.not_mem_nil)) hr hz (by omega));rw[hp]at H57;have H102:=hid (fun(Y:World) (hf:Fr [] w Y)=>at_any Bd z hr o gB cB Bd.length (.slice (some ⟨gV,0,none⟩) V.length cV) v2 Y rfl (by omega) (HRB.fr hf List.not_mem_nil));have H103:=hid (fun(Y:World) (hf:Fr [] w Y)=>holds_any Ls (nth Bd c) i B U gL cL Ls.length hs Y hi rfl hK (owns_fr0 h.l hf) (hn.fr (fun _ _ _ _ _ _ h=>owns_fr0 h hf)));have H104:=hid (fun(Y:World) (hf:Fr [] w Y)=>index_any (lnN Ls i).o c k gO (lnN Ls i).o.length cO Y rfl hk (hlo _ hmem) (HRO.out.fr hf List.not_mem_nil));have H105:=hid (fun(Y:World) (hf:Fr [] w Y)=>left_any V gV V.length cV c (.slice (some ⟨gB,0,none⟩) Bd.length cB) v2 Y hc (HRV.fr hf List.not_mem_nil) (T.vb c).1);have p0:=obj_cell h.o (i:=0) (v:=.slice (some ⟨gB,0,none⟩) Bd.length cB) rfl;have p1:=obj_cell h.o (i:=1) (v:=.slice (some ⟨gV,0,none⟩) V.length cV) rfl;have p2:=obj_cell h.o (i:=2) (v:=v2) rfl;have p3:=obj_cell h.o (i:=3) (v:=.slice (some ⟨gL,0,none⟩) Ls.length cL) rfl;have c2:w.cell? ⟨gL,i * 4+2,none⟩=some (.slice (some ⟨gO,0,none⟩) (lnN Ls i).o.length cO):=by rw[h.l.cellAt _ (by omega)];exact a3
 have cb:=HRB c (by omega);have hPl:P<w.heap.size:=World.block_lt_of_cell? _ _ p3;have e1:=World.block_lt_of_cell? _ _ c2;have e2:=World.block_lt_of_cell? _ _ cb;dsimp only at e1 e2;rw[hcc]at H102;obtain⟨m,hm⟩:∃m:Nat,m=if bk=true then c+1 else c:=⟨_,rfl⟩
 rw[←hm]at H102;have HM:=hid hm;obtain⟨lf,hlf⟩:∃lf,lf=(nth V c % 2 == 1):=⟨_,rfl⟩;rw[←hlf]at H105 ⊢;obtain⟨gp,hgp⟩:∃gp:Nat,gp=(if bk=lf then k else k+1:Nat):=⟨_,rfl⟩;rw[←hgp];have HGP:=hid hgp;have hV0:0<V.length:=by omega
 have hcI:(c:Int)<(Bd.length:Int):=by omega
 have hiI:(i:Int)<(Ls.length:Int):=by omega
 have hkb:k≤1000:=by have:=hlo _ hmem;omega
 generalize nth Bd c=y at *;generalize (lnN Ls i).o.length=lo at *;generalize Ls.length=K at *;generalize Bd.length=nB at *;generalize V.length=nV at *;have hV0b:(((nV:Nat):Int) == 0)=false:=by simp;omega
 have hmb:m≤1000:=by rw[hm];split <;> omega
 clear h hr T hp hcc hi hk hn a3 a5 hlo HRB HRV HRO hlf hgp hmem hm hbd;obtain⟨w2,hw2⟩:∃w2,w2=(w.alloc (.cells #[.int .i64 off,.bool back] 35)).alloc (.cells #[.int .i64 0,.int .i64 0] 37):=⟨_,rfl⟩;have HF2:=hid (show Fr [] w w2 by rw[hw2];exact((Fr.refl _ _).alloc _).alloc _);have HO2:=hid (show w2.heap[w.heap.size]?=some (.cells #[.int .i64 off,.bool back] 35 (0,0)) by rw[hw2];exact obj_fr (obj_new w _) ((Fr.refl [] _).alloc _) List.not_mem_nil)
 have HR2:=hid (show w2.heap[w.heap.size+1]?=some (.cells #[.int .i64 0,.int .i64 0] 37 (0,0)) by
  have hs:(w.alloc (.cells #[.int .i64 off,.bool back] 35)).heap.size=w.heap.size+1:=by simp
  have h0:=obj_new (w.alloc (.cells #[.int .i64 off,.bool back] 35)) (.cells #[.int .i64 0,.int .i64 0] 37)
  rw[hs]at h0
  rw[hw2];exact h0)
 go_enter Tryz.func84,Tryz.ntmps84;have HW2:=hid hw2;clear hw2;go_wp2_with fail;rw[←HW2.out];refine(H57.out _ HF2.out).mono ?_;rintro e w3 ⟨rfl,hf3⟩;have HO3:=hid (obj_fr HO2.out hf3 List.not_mem_nil);have HR3:=hid (obj_fr HR2.out hf3 List.not_mem_nil);have HF3:=hid (HF2.out.trans hf3);have z0:=obj_cell HO3.out (i:=0) (v:=.int .i64 off) rfl;have z1:=obj_cell HO3.out (i:=1) (v:=.bool back) rfl;have f0:=obj_froz HO3.out 0;have f1:=obj_froz HO3.out 1;have P0:=hid p0;have P1:=hid p1;have P2:=hid p2;have P3:=hid p3;have C2:=hid c2;have CB:=hid cb;clear hf3 p0 p1 p2 p3 c2 cb;have q0:=HF3.out.cell P0.out List.not_mem_nil;have q1:=HF3.out.cell P1.out List.not_mem_nil;have q2:=HF3.out.cell P2.out List.not_mem_nil;have hnP:P≠w.heap.size:=by omega
 go_wp2_with fail;obtain⟨w4,hw4⟩:∃w4,w4=(w3.setCell ⟨w.heap.size,0,none⟩ (.int .i64 o)).setCell ⟨w.heap.size,1,none⟩ (.bool bk):=⟨_,rfl⟩;have HO4:=hid (show w4.heap[w.heap.size]?=some (.cells #[.int .i64 o,.bool bk] 35 (0,0)) by rw[hw4];exact obj_set (obj_set HO3.out 0 _) 1 _);have HR4:=hid (show w4.heap[w.heap.size+1]?=some (.cells #[.int .i64 0,.int .i64 0] 37 (0,0)) by rw[hw4];exact obj_fr HR3.out (show Fr [w.heap.size] w3 _ by(repeat(first | refine Fr.set ?_ (List.mem_singleton.2 rfl) _ | refine Fr.drewN ?_ _ | refine Fr.drew ?_ | with_reducible exact Fr.refl _ _ | refine Fr.alloc ?_ _))) (by simp));have HF4:=hid (show Fr [] w w4 by rw[hw4];exact Fr.set_new (Fr.set_new HF3.out (by omega)) (by omega));rw[←hw4];clear hw4 z0 z1 f0 f1 q0 q1 q2;have q0:=HF4.out.cell P0.out List.not_mem_nil;have q1:=HF4.out.cell P1.out List.not_mem_nil;have q2:=HF4.out.cell P2.out List.not_mem_nil;have s3:=obj_cell HO4.out (i:=0) (v:=.int .i64 o) rfl;go_cut [5]from 8 to 99 (fun v wx=>v=.int .i64 (m:Nat)∧Hid (Fr [] w4 wx))
 case first =>
  go_region_with (first
   | (go_at_call 150;refine(H102.out _ ?fa).mono ?_;(case fa=>exact⟨HF4.out.os,HF4.out.tape,HF4.out.output,HF4.out.size,HF4.out.block⟩);rintro e w5 ⟨rfl,hf5⟩;have HG5:=hid (show Fr [] w4 w5 from⟨hf5.os,hf5.tape,hf5.output,hf5.size,hf5.block⟩);clear hf5))
  all_goals (
   go_wp2
   go_meet
   exact⟨rfl,HG5⟩)
 case rest =>
  obtain⟨rfl,HG5⟩:=hcut;obtain⟨w5,hw5⟩:∃w5,w5=wc:=⟨_,rfl⟩;rw[←hw5]at HG5 ⊢;have HO5:=hid (obj_fr HO4.out HG5.out List.not_mem_nil);have HR5:=hid (obj_fr HR4.out HG5.out List.not_mem_nil);have HF5:=hid (HF4.out.trans HG5.out);clear q0 q1 q2 s3 hw5;have t1:=obj_cell HO5.out (i:=1) (v:=.bool bk) rfl;have q0:=HF5.out.cell P0.out List.not_mem_nil;have q3:=HF5.out.cell P3.out List.not_mem_nil;have qb:=HF5.out.cell CB.out List.not_mem_nil;have H103b:=hid (fun(Y:World) (hf:Fr [] w5 Y)=>H103.out Y (HF5.out.trans hf));have hwm:bk=true→IntKind.i64.wrap ((m:Int) - 1)=(c:Int):=by have h:=HM.out;intro hb;rw[if_pos hb]at h;rw[IntKind.wrap_i64];omega
  have hwf:bk=false→m=c:=by have h:=HM.out;intro hb;rw[hb]at h;simpa using h
  have HWM:=hid hwm;have HWF:=hid hwf;clear hwm hwf;go_upto_if 27 with fail
  go_cut [5]from 8 to 99 (fun v wx=>v=.int .i64 (c:Nat)∧wx=w5)
  case first =>
   cases bk
   ·obtain rfl:=HWF.out rfl
    go_wp2;go_meet;exact⟨rfl,rfl⟩
   ·have hwm:=HWM.out rfl
    go_wp2;go_meet;exact⟨rfl,rfl⟩
  case rest =>
   obtain⟨rfl,hwc⟩:=hcut;obtain rfl:=hwc;clear t1;go_wp2_with fail;go_cut [6]from 8 to 99 (fun v wx=>v=.int .i64 (i:Nat)∧Hid (Fr [] wc wx))
   case first =>
    go_region_with (first
     | (go_at_call 151;refine(H103b.out _ ?fb).mono ?_;(case fb=>exact⟨rfl,rfl,rfl,Nat.le_refl _,fun _ _ _=>rfl⟩);rintro e w6 ⟨rfl,hf6⟩;have HG6:=hid (show Fr [] wc w6 from⟨hf6.os,hf6.tape,hf6.output,hf6.size,hf6.block⟩);clear hf6))
    all_goals (
     go_wp2
     go_meet
     exact⟨rfl,HG6⟩)
   case rest =>
    obtain⟨rfl,HG6⟩:=hcut;obtain⟨w6,hw6⟩:∃w6,w6=wc:=⟨_,rfl⟩;rw[←hw6]at HG6 ⊢;have HO6:=hid (obj_fr HO5.out HG6.out List.not_mem_nil);have HR6:=hid (obj_fr HR5.out HG6.out List.not_mem_nil);have HF6:=hid (HF5.out.trans HG6.out);clear q0 q3 qb hw6;have t1:=obj_cell HO6.out (i:=1) (v:=.bool bk) rfl;have q0:=HF6.out.cell P0.out List.not_mem_nil;have q1:=HF6.out.cell P1.out List.not_mem_nil;have q2:=HF6.out.cell P2.out List.not_mem_nil;have q3:=HF6.out.cell P3.out List.not_mem_nil;have qc:=HF6.out.cell C2.out List.not_mem_nil;have H104b:=hid (H104.out w6 HF6.out);have H105b:=hid (fun(Y:World) (hf:Fr [] w6 Y)=>H105.out Y (HF6.out.trans hf));go_wp2_with (first | (go_at_call 152;refine H104b.out.mono ?_;rintro e wz ⟨rfl,hwz⟩;obtain rfl:w6=wz:=hwz.symm));go_cut [61]from 8 to 99 (fun v wx=>v=.bool (bk != lf)∧Hid (Fr [] w6 wx))
    case first =>
     go_region_with (first
      | (go_at_call 153;refine(H105b.out _ ?fc).mono ?_;(case fc=>exact⟨rfl,rfl,rfl,Nat.le_refl _,fun _ _ _=>rfl⟩);rintro e w7 ⟨rfl,hf7⟩;have HG7:=hid (show Fr [] w6 w7 from⟨hf7.os,hf7.tape,hf7.output,hf7.size,hf7.block⟩);have t2:=obj_cell (obj_fr HO6.out HG7.out List.not_mem_nil) (i:=1) (v:=.bool bk) rfl;clear hf7))
     all_goals (
      go_wp2
      go_meet
      exact⟨rfl,HG7⟩)
    case rest =>
     obtain⟨rfl,HG7⟩:=hcut;obtain⟨w7,hw7⟩:∃w7,w7=wc:=⟨_,rfl⟩;rw[←hw7]at HG7 ⊢;have HR7:=hid (obj_fr HR6.out HG7.out List.not_mem_nil);have HF7:=hid (HF6.out.trans HG7.out);clear q0 q1 q2 q3 qc t1 hw7;have r0:=obj_cell HR7.out (i:=0) (v:=.int .i64 0) rfl;have r1:=obj_cell HR7.out (i:=1) (v:=.int .i64 0) rfl;have g0:=obj_froz HR7.out 0;have g1:=obj_froz HR7.out 1;by_cases hbl:bk=lf
     ·subst hbl
      have hgp:=HGP.out;rw[if_pos rfl]at hgp;subst hgp;have hb0:(bk != bk)=false:=by simp
      rw[hb0];clear hb0;go_wp2;refine bodyPost_ret (results_cell_row (t:=37) (fr:=(0,0)) rfl _ _ (w.heap.size+1) _ _ rfl (obj_set (obj_set HR7.out 0 _) 1 _) Tryz.underlying37 rfl (by kernel_rfl)) rfl ?_;exact⟨rfl,Fr.set_new (Fr.set_new HF7.out (by omega)) (by omega)⟩
     ·have hgp:=HGP.out
      rw[if_neg hbl]at hgp;have hb0:(bk != lf)=true:=by simpa using hbl
      rw[hb0];clear hb0;have hwk:IntKind.i64.wrap ((k:Int)+1)=((gp:Nat):Int):=by rw[IntKind.wrap_i64];omega
      clear hgp;go_wp2;refine bodyPost_ret (results_cell_row (t:=37) (fr:=(0,0)) rfl _ _ (w.heap.size+1) _ _ rfl (obj_set (obj_set HR7.out 0 _) 1 _) Tryz.underlying37 rfl (by kernel_rfl)) rfl ?_;exact⟨rfl,Fr.set_new (Fr.set_new HF7.out (by omega)) (by omega)⟩
end Go.Proofs.YtnakejhohdbfdabGreatDoor

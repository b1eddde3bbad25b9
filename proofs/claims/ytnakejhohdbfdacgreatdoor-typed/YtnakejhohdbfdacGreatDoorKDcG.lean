import Derived.Test.YtnakejhohdbfdacGreatDoorKDcF
import Derived.Deep.RegionHeld3
namespace Go.Proofs.YtnakejhohdbfdacGreatDoor.Cls.Dc
open Go.RowKit Dec Kin Bnd Lay Lev
structure Txt (t:ByteArray)(n:Nat):Prop where
 e:Dec.Ends t n
 s:t.size≤400
 b:∀k,k<n→Tabs.look Tabs.classTab (rune t k)≠10
structure Doc (w:World)(B D:Nat)(R:Int)(t:ByteArray)(n lo:Nat):Prop where
 x:∃vB Z P Bl Bd V Ls vU nU xs L,w.heap[D]?=some (.cells (docC 2 10 20 R t vB Z vU (.slice none 0 0)) 85 (0,0))∧w.heap[Z]?=some (.cells (sesC P (t.size:Nat) (decide (((t.size:Nat):Int)≠0)) (t.size:Nat) (decide (((t.size:Nat):Int)≠0)) false 0) 134 (0,0))∧Laid w Bl P Bd V (t.size:Nat) Ls∧w.ownsRow B 116 5 vU nU xs∧nU≤6∧(∀u∈xs,u.oneCell'=true)∧w.ownsRow B 3 1 vB L.length (ints64 L)∧L.length≤5000∧lo≤Bl
 t:Txt t n
 r:-9223372036854775808≤R∧R≤9223372036854775807
 bD:B≤D
 b9:9<B
 g:Gr w
 bw:B≤w.heap.size
structure Chg (w w':World)(B D:Nat):Prop where
 os:w'.os=w.os
 tape:w'.tape=w.tape
 output:w'.output=w.output
 size:w.heap.size≤w'.heap.size
 block:∀k,k<w.heap.size→k≠D→(∀c f,w.heap[k]?≠some (.cells c 116 f))→w'.heap[k]?=w.heap[k]?
 low:∀k,k<B→k<w.heap.size→w'.heap[k]?=w.heap[k]?
theorem Chg.of {w w':World}{B D n:Nat}{v:Value}{xs:List Value}(h:Fr (D :: v.ownBlock.toList) w w')(ho:w.ownsRow B 116 5 v n xs)(hD:B≤D):Chg w w' B D:=by
 have hv:∀k,k∈v.ownBlock.toList→B≤k∧∃c,w.heap[k]?=some (.cells c 116 (0,0)):=fun k hk=>by
  rcases ho.2 with⟨e,_⟩ | ⟨g,cap,cur,e,q1,q2,_⟩
  ·rw[e]at hk;cases hk
  ·rw[e]at hk
   have:=List.mem_singleton.1 hk;subst this;exact⟨q1,cur,q2⟩
 refine⟨h.os,h.tape,h.output,h.size,fun k hk hne hty=>h.block k hk (fun hm=>?_),fun k hk hl=>h.block k hl (fun hm=>?_)⟩
 ·rcases List.mem_cons.1 hm with q | q
  ·exact hne q
  ·obtain⟨_,c,hc⟩:=hv k q
   exact hty c _ hc
 ·rcases List.mem_cons.1 hm with q | q
  ·omega
  ·have:=(hv k q).1
   omega
theorem Chg.fr0 {w w1 w':World}{B D:Nat}(h:Fr [] w w1)(k:Chg w1 w' B D):Chg w w' B D :=
 ⟨k.os.trans h.os,k.tape.trans h.tape,k.output.trans h.output,Nat.le_trans h.size k.size,fun x hx hne hty=>(k.block x (Nat.lt_of_lt_of_le hx h.size) hne (fun c f e=>hty c f ((h.block x hx List.not_mem_nil).symm.trans e))).trans (h.block x hx List.not_mem_nil),fun x hx hl=>(k.low x hx (Nat.lt_of_lt_of_le hl h.size)).trans (h.block x hl List.not_mem_nil)⟩
theorem Chg.fr1 {w w1 w':World}{B D:Nat}(k:Chg w w1 B D)(h:Fr [] w1 w'):Chg w w' B D :=
 ⟨h.os.trans k.os,h.tape.trans k.tape,h.output.trans k.output,Nat.le_trans k.size h.size,fun x hx hne hty=>(h.block x (Nat.lt_of_lt_of_le hx k.size) List.not_mem_nil).trans (k.block x hx hne hty),fun x hx hl=>(h.block x (Nat.lt_of_lt_of_le hl k.size) List.not_mem_nil).trans (k.low x hx hl)⟩
theorem Chg.trans {w w1 w':World}{B D:Nat}(h:Chg w w1 B D)(k:Chg w1 w' B D):Chg w w' B D :=
 ⟨k.os.trans h.os,k.tape.trans h.tape,k.output.trans h.output,Nat.le_trans h.size k.size,fun x hx hne hty=>(k.block x (Nat.lt_of_lt_of_le hx h.size) hne (fun c f e=>hty c f ((h.block x hx hne hty).symm.trans e))).trans (h.block x hx hne hty),fun x hx hl=>(k.low x hx (Nat.lt_of_lt_of_le hl h.size)).trans (h.low x hx hl)⟩
theorem Chg.obj {w w':World}{B D k:Nat}{cs:Array Value}{t:TypeId}{f:Nat × Nat}(h:Chg w w' B D)(hk:w.heap[k]?=some (.cells cs t f))(hne:k≠D)(ht:t≠116):w'.heap[k]?=some (.cells cs t f) :=
 (h.block k (Array.getElem?_eq_some_iff.1 hk).1 hne (fun c f' e=>ht (by rw[hk]at e;cases e;rfl))).trans hk
theorem wrp_len {s:ByteArray}{n:Nat}(hend:Dec.Ends s n)(W:List Int)(R:Int):(Wr.wrp s n W R).length≤s.size:=by
 have h1:=Wr.brk_len (Wr.ln1 (Wr.blk s n) (Wr.cw s n W) R (cn s n)) (cn s n) (cn s n) 0 (by omega);have h2:cn s n≤n:=by have:=(bix_len s n).1;unfold cn;omega
 have h3:=le_pos s n;have h4:=hend.1;show(List.map _ _).length≤_;rw[List.length_map];omega
theorem snap_end (s:ByteArray)(n:Nat)(up:Bool)(w:World)(hend:Dec.Ends s n)(hs:s.size≤100000)(ht:Cls.TabAt w 0 Tabs.kindTab) :
 Calls Tryz.prog 21 #[.string s,.int .i64 ((s.size:Nat):Int),.bool up] w fun e w'=>e=.returned (.int .i64 ((s.size:Nat):Int))∧Fr [] w w':=by
 have H:=hid (Cls.fn25_any s w (by omega) ht);have HE:=hid hend
 have HSN:=hid (fun(Y:World) (g cap:Nat) (hc:∀j,j<(bnd s n).length→Y.cell? ⟨g,j,none⟩=some (.int .i64 ((bnd s n).getD j 0)))=>show Calls Tryz.prog 40 #[.slice (some ⟨g,0,none⟩) (bnd s n).length cap,.int .i64 ((s.size:Nat):Int),.bool up] Y fun e w'=>e=.returned (.int .i64 ((s.size:Nat):Int))∧∃q,w'=Y.drewN q by
  have hr:=rises_bnd HE.out
  have hmm:min (max ((s.size:Nat):Int) 0) ((s.size:Nat):Int)=((s.size:Nat):Int):=by omega
  obtain⟨k,hk⟩:=cut_exists (min (max ((s.size:Nat):Int) 0) ((s.size:Nat):Int)) (bnd s n) hr.sorted
  have hbl:=Wr.bnd_len HE.out
  have h1:=Cls.fn35_any (bnd s n) _ hr ((s.size:Nat):Int) up k g cap Y (by omega) hk (by rw[hbl];have:=(bix_len s n).1;have:=Dec.le_pos s n;have:=HE.out.1;unfold cn;omega) hc
  rw[hmm]at h1 hk
  obtain⟨hl,he⟩:=rises_end hr
  have h2:=Wr.snapL_own hr (i:=(bnd s n).length - 1) (by omega) he hk
  have hm:(bnd s n).contains ((s.size:Nat):Int)=true:=by
   rw[List.contains_iff_mem,←he]
   simp[List.getD,show(bnd s n).length - 1<(bnd s n).length by omega]
  have h3:snapL (bnd s n) ((s.size:Nat):Int) up k=((s.size:Nat):Int):=by
   unfold snapL at h2 ⊢
   rw[hm,Bool.true_or,if_pos rfl]at h2
   rw[hm,Bool.true_or,if_pos rfl]
   exact h2
  rw[h3]at h1
  exact h1)
 have HL:=hid (show 0<(bnd s n).length from(rises_bnd hend).len);generalize ((s.size:Nat):Int)=sn at *;clear ht hend;go_enter Tryz.func21,Tryz.ntmps21;go_wp2_with fail;refine H.out.mono ?_;rintro e w1 ⟨n',v,he',rfl,own1,hb⟩;have e:=Dec.ends_unique he' HE.out;subst e;obtain⟨g,cap,hv⟩:=owns_shape_pos HL.out own1;subst hv;have HC:=hid (HSN.out w1 g cap (fun j hj=>by rw[own1.cellAt _ (by omega)];exact Wr.ints_get hj));have HB:=hid (Fr.of_below (S:=[]) hb);clear own1 hb he' H HSN HL;generalize (bnd s n').length=l at *;go_wp2_with fail;refine HC.out.mono ?_;rintro e w2 ⟨rfl,q,rfl⟩;go_wp2;go_ret;exact⟨rfl,HB.out.drewN _⟩
theorem own_frT {S:List Nat}{w w':World}{B:Nat}{e:TypeId}{size n:Nat}{v:Value}{xs:List Value}(h:w.ownsRow B e size v n xs)(hf:Fr S w w')(hS:∀g,v.ownBlock=some g→g ∉ S):w'.ownsRow B e size v n xs :=
 Wr.own_blk h (fun g hg=>hf.block g (h.lt g hg).2 (hS g hg))
set_option maxRecDepth 10000 in
set_option maxHeartbeats 8000000 in
theorem change_any (B D n n' f u lo:Nat)(R:Int)(t ct nt:ByteArray)(up:Bool)(w:World)(h:Doc w B D R t n lo)(hfu:f≤u)(hu:u≤t.size)(hnt:nt=t.extract 0 f++ct++t.extract u t.size)(hoff:f+ct.size=nt.size)(hN:Txt nt n')(hct:ct.size≤100000) :
 Calls Tryz.prog 28 #[.pointer (some ⟨D,0,none⟩),.agg #[.int .i64 (f:Nat),.int .i64 (u:Nat),.string ct,.bool up,.bool true]] w fun e w'=>e=.returned (.bool true)∧Doc w' B D R nt n' w.heap.size∧Chg w w' B D:=by
 obtain⟨vB,Z,P,Bl,Bd,V,Ls,vU,nU,xs,L,hD,hZ,hL,hU,hnU,h1,hvB,_⟩:=h.x;obtain⟨wb,hwb⟩:∃wb,wb=w.alloc (.cells #[.int .i64 (f:Nat),.int .i64 (u:Nat),.string ct,.bool up,.bool true] 88):=⟨_,rfl⟩;have HFb:=hid (show Fr [] w wb by rw[hwb];exact(Fr.refl [] w).alloc _);have HOb:=hid (show wb.heap[w.heap.size]?=some (.cells #[.int .i64 (f:Nat),.int .i64 (u:Nat),.string ct,.bool up,.bool true] 88 (0,0)) by rw[hwb];exact obj_new w _);have HWS:=hid (show wb.heap.size=w.heap.size+1 by rw[hwb,World.size_alloc]);have HDb:=hid (obj_fr hD HFb.out List.not_mem_nil);have HZb:=hid (obj_fr hZ HFb.out List.not_mem_nil);have HUb:=hid (owns_fr0 hU HFb.out);have hDl:=obj_lt hD;have HH:=hid h;have HU0:=hid hU;have H1:=hid h1;have HN:=hid hN;have hfI:(f:Int)≤(t.size:Int):=by omega
 have huI:(u:Int)≤(t.size:Int):=by omega
 have hft:f≤t.size:=by omega
 have hts:=h.t.s;have hns:=hN.s;have hnd:decide ((400:Int)<((nt.size:Nat):Int))=false:=by simp;omega
 have d4:=obj_cell HDb.out (i:=4) (v:=.string t) rfl;have c0:=obj_cell HOb.out (i:=0) (v:=.int .i64 (f:Nat)) rfl;have c1:=obj_cell HOb.out (i:=1) (v:=.int .i64 (u:Nat)) rfl;have c2:=obj_cell HOb.out (i:=2) (v:=.string ct) rfl;have HNT:=hid hnt;clear h hD hZ hL hU h1 hvB hN hnt;go_enter Tryz.func28,Tryz.ntmps28;go_wp2_with fail;rw[←hwb];clear hwb;go_quiet (fail);obtain⟨w1,hw1⟩:∃w1,w1=wb.drewN nq:=⟨_,rfl⟩;have HG1:=hid (show Fr [] wb w1 by rw[hw1];exact fr_drewN _ _);rw[←hw1,←HNT.out];clear hw1 d4 c0 c1 c2;have HF1:=hid (HFb.out.trans HG1.out);have HO1:=hid (obj_fr HOb.out HG1.out List.not_mem_nil);have HD1:=hid (obj_fr HDb.out HG1.out List.not_mem_nil);have HZ1:=hid (obj_fr HZb.out HG1.out List.not_mem_nil);have HU1:=hid (owns_fr0 HUb.out HG1.out);have HB1:=hid (show B≤w1.heap.size from Nat.le_trans HH.out.bw HF1.out.size);have HDN:=hid (show ∀g,vU.ownBlock=some g→g≠D from fun g hg e=>own_ne HU1.out HD1.out (fun c f h=>by cases h) (by rw[hg,e]));have hw1l:w.heap.size<w1.heap.size:=Nat.lt_of_lt_of_le (obj_lt HOb.out) HG1.out.size;obtain⟨SU,hSU⟩:∃SU,SU=vU.ownBlock.toList:=⟨_,rfl⟩
 have HSU:=hid (show ∀k∈SU,B≤k∧k<w.heap.size∧vU.ownBlock=some k from fun k hk=>by
  rw[hSU]at hk
  have e:vU.ownBlock=some k:=by
   cases hb:vU.ownBlock with
   | none=>rw[hb]at hk;cases hk
   | some g=>rw[hb]at hk;rw[List.mem_singleton.1 hk]
  have hlt:k<w.heap.size:=by
   have h1:=HUb.out.lt k e
   rcases Nat.lt_or_ge k w.heap.size with q | q
   ·exact q
   ·exfalso
    have h2:k=w.heap.size:=by
     have h3:=h1.2
     have h4:=obj_lt HOb.out
     have h5:wb.heap.size=w.heap.size+1:=by
      have:=HWS.out
      exact this
     omega
    exact own_ne HUb.out HOb.out (fun c f h=>by cases h) (by rw[e,h2])
  exact⟨(HUb.out.lt k e).1,hlt,e⟩)
 have HNM:=hid (show w.heap.size ∉ D :: SU from fun hm=>by
  rcases List.mem_cons.1 hm with q | q
  ·have:=hDl;omega
  ·have:=(HSU.out _ q).2.1;omega)
 have H59:=hid (fun(Y:World) (hf:Fr [] w1 Y)=>now_any D Z P 2 10 20 R _ _ 0 t vB vU (.slice none 0 0) _ _ false Y (obj_fr HD1.out hf List.not_mem_nil) (obj_fr HZ1.out hf List.not_mem_nil));have H58:=hid (fun(Y:World) (hf:Fr [] w1 Y) (ao fo:Int) (ab fb:Bool)=>record_any D Z B nU 2 10 20 R ao fo t t vB vU (.slice none 0 0) ab fb xs Y (obj_fr HD1.out hf List.not_mem_nil) (owns_fr0 HU1.out hf) hnU H1.out (Nat.le_trans HB1.out hf.size));rw[←hSU]at H58;have HSE:=hid hSU;clear hSU;generalize decide (((t.size:Nat):Int)≠0)=tb at *;go_wp2_with fail;go_cut []from 7 to 52 (fun wx=>∃vU',Hid (wx.heap[D]?=some (.cells (docC 2 10 20 R t vB Z vU' (.slice none 0 0)) 85 (0,0)))∧Hid (∃m,wx.ownsRow B 116 5 vU' (recN nU) (recL nU xs m)∧∀u∈m,u.oneCell'=true)∧Hid (Fr (D :: SU) w1 wx))
 case first =>
  go_region_with (first
   | (go_at_call 59;refine(H59.out _ ?fa).mono ?_;(case fa=>exact(Fr.refl [] w1).drew);rintro e w2 ⟨rfl,hf2⟩;have Hw2:=hid (show Fr [] w1 w2 from Fr.trans (Fr.refl [] w1).drew hf2);clear hf2)
   | (go_at_call 58;refine(H58.out _ ?fa _ _ _ _).mono ?_;(case fa=>exact Hw2.out);rintro e w3 ⟨rfl,vU',hD3,hU3,_,hf3⟩;have HX1:=hid hD3;have HX2:=hid hU3;have HX3:=hid (show Fr (D :: SU) w1 w3 from Fr.trans (Hw2.out.mono (fun k hk=>absurd hk List.not_mem_nil)) hf3);clear hD3 hU3 hf3))
  all_goals (
   go_wp2
   go_meet
   exact⟨vU',HX1,hid ⟨_,HX2.out,mom_one _ _ _ _ _⟩,HX3⟩)
 case rest =>
  obtain⟨vU',HD3,HU3,HG3⟩:=hcut;obtain⟨w3,hw3⟩:∃w3,w3=wc:=⟨_,rfl⟩;rw[←hw3]at HD3 HU3 HG3 ⊢;have HF3:=hid (show Fr (D :: SU) w w3 from Fr.trans (HF1.out.mono (fun k hk=>absurd hk List.not_mem_nil)) HG3.out);have HO3:=hid (obj_fr HO1.out HG3.out HNM.out)
  have HDS:=hid (show ∀k∈D :: SU,9<k from fun k hk=>by
   have h9:=HH.out.b9
   rcases List.mem_cons.1 hk with q | q
   ·have:=HH.out.bD;omega
   ·have:=(HSU.out _ q).1;omega)
  have HGR3:=hid (HH.out.g.fr HF3.out HDS.out);clear hw3;have c0:=obj_cell HO3.out (i:=0) (v:=.int .i64 (f:Nat)) rfl;have c2:=obj_cell HO3.out (i:=2) (v:=.string ct) rfl;have c3:=obj_cell HO3.out (i:=3) (v:=.bool up) rfl;have c4:=obj_cell HO3.out (i:=4) (v:=.bool true) rfl;have hoI:(f:Int)+((ct.size:Nat):Int)=((nt.size:Nat):Int):=by omega
  have hwr:IntKind.i64.wrap ((nt.size:Nat):Int)=((nt.size:Nat):Int):=by rw[IntKind.wrap_i64];omega
  have H21:=hid (fun(Y:World) (hf:Fr [] w3 Y)=>snap_end nt n' up Y HN.out.e (by omega) (tab_fr HGR3.out.f.t9 hf));have hw3l:w.heap.size<w3.heap.size:=obj_lt HO3.out;go_wp2_with fail;go_cut [6]from 7 to 52 (fun v6 wx=>∃G,v6=.pointer (some ⟨G,0,none⟩)∧Hid (wx.heap[G]?=some (.cells #[.int .i64 (nt.size:Nat),.bool true] 26 (0,0)))∧Hid (Fr [] w3 wx))
  case first =>
   have HK:=hid (fun(wz:World) (hf:Fr [] w3 wz)=>show wz.cell? ⟨w.heap.size,0,none⟩=some (.int .i64 (f:Nat))∧wz.cell? ⟨w.heap.size,2,none⟩=some (.string ct)∧wz.cell? ⟨w.heap.size,3,none⟩=some (.bool up)∧wz.cell? ⟨w.heap.size,4,none⟩=some (.bool true)from⟨hf.cell c0 List.not_mem_nil,hf.cell c2 List.not_mem_nil,hf.cell c3 List.not_mem_nil,hf.cell c4 List.not_mem_nil⟩);clear HFb HOb HDb HZb HUb HH H1 HN HNT HG1 HF1 HO1 HD1 HZ1 HU1 HB1 HDN HSU HNM H59 H58 HSE HD3 HU3 HG3 HF3 HDS HGR3 HO3 HWS hfI huI hft hnd hfu hu hoff hct hDl;go_region_held3 (fun wz=>wz.cell? ⟨w.heap.size,0,none⟩=some (.int .i64 (f:Nat))∧wz.cell? ⟨w.heap.size,2,none⟩=some (.string ct)∧wz.cell? ⟨w.heap.size,3,none⟩=some (.bool up)∧wz.cell? ⟨w.heap.size,4,none⟩=some (.bool true)) (first | with_reducible exact HS1 | (refine HK.out _ ?_;first | exact((Fr.refl [] w3).drew).alloc _ | exact((Fr.refl [] w3).alloc _).drew | exact HW4.out.alloc _ | exact Fr.set_new (Fr.set_new HW4.out (Nat.le_refl _)) (Nat.le_refl _) | exact Fr.set_new (Fr.set_new (HW4.out.alloc _) HW4.out.size) HW4.out.size) | go_keep)
    (first
      | (go_at_call 21;refine(H21.out _ ?fa).mono ?_;(case fa=>first | exact(Fr.refl [] w3).drew | exact((Fr.refl [] w3).alloc _).drew | exact(Fr.refl [] w3).drew.alloc _);rintro e w4 ⟨rfl,hf4⟩;have HW4:=hid (show Fr [] w3 w4 from Fr.trans (by first | exact(Fr.refl [] w3).drew | exact((Fr.refl [] w3).alloc _).drew | exact(Fr.refl [] w3).drew.alloc _) hf4);have HS1:=HK.out _ HW4.out;(try(have hob:w4.heap[w3.heap.size]?=some (.cells #[.int .i64 0,.bool false] 26 (0,0)):=obj_fr (obj_new w3.drew (.cells #[.int .i64 0,.bool false] 26)) hf4 List.not_mem_nil;have HOG:=hid hob;have g0:=obj_cell hob (i:=0) (v:=.int .i64 0) rfl;have g1:=obj_cell hob (i:=1) (v:=.bool false) rfl;have k0:=obj_froz hob 0;have k1:=obj_froz hob 1;clear hob));clear hf4))
   all_goals (
    go_wp2
    go_meet
    first
     | exact⟨_,rfl,hid (obj_set (obj_set HOG.out 0 _) 1 _),hid (Fr.set_new (Fr.set_new HW4.out (Nat.le_refl _)) (Nat.le_refl _))⟩
     | exact⟨_,rfl,hid (obj_new w4 _),hid (HW4.out.alloc _)⟩
     | exact⟨_,rfl,hid (obj_set (obj_set (obj_new w4 _) 0 _) 1 _),hid (Fr.set_new (Fr.set_new (HW4.out.alloc _) HW4.out.size) HW4.out.size)⟩)
  case rest =>
   obtain⟨G,rfl,HOG,HG5⟩:=hcut;obtain⟨w5,hw5⟩:∃w5,w5=wc:=⟨_,rfl⟩;rw[←hw5]at HOG HG5 ⊢;have HF5:=hid (show Fr (D :: SU) w w5 from HF3.out.trans (HG5.out.mono (fun k hk=>absurd hk List.not_mem_nil)));have HD5:=hid (obj_fr HD3.out HG5.out List.not_mem_nil)
   have HU5:=hid (show ∃m,w5.ownsRow B 116 5 vU' (recN nU) (recL nU xs m)∧∀u∈m,u.oneCell'=true from by
    obtain⟨m,q1,q2⟩:=HU3.out
    exact⟨m,owns_fr0 q1 HG5.out,q2⟩)
   have HD9:=hid (show 9<D by have:=HH.out.b9;have:=HH.out.bD;omega);have H45:=hid (turn_any D n' 2 10 20 R ((nt.size:Nat):Int) ((nt.size:Nat):Int) t nt vB (.pointer (some ⟨Z,0,none⟩)) vU' (.slice none 0 0) true true w5 HD5.out HD9.out (HGR3.out.fr HG5.out (fun k hk=>absurd hk List.not_mem_nil)) HN.out.e HN.out.s (.inr (.inr rfl)) (by decide) (by decide) HH.out.r HN.out.b);have g0:=obj_cell HOG.out (i:=0) (v:=.int .i64 (nt.size:Nat)) rfl;have g1:=obj_cell HOG.out (i:=1) (v:=.bool true) rfl;clear hw5 c0 c2 c3 c4 hoI H21 hwr;go_wp2_with fail;refine H45.out.mono ?_;rintro e w6 ⟨rfl,vB',Z',P',Bl',Bd',V',Ls',hD6,hZ6,hL6,hbl6,_,hvB6,hf6⟩;rw[place_end hL6.f.rs (by omega)]at hZ6;have HD6:=hid hD6;have HBL6:=hid hbl6;have HZ6:=hid hZ6;have HL6:=hid hL6;have HV6:=hid hvB6;have HF6:=hid (show Fr (D :: SU) w w6 from HF5.out.trans (hf6.mono (fun k hk _=>by rw[List.mem_singleton.1 hk];exact List.mem_cons_self)));have HX6:=hid hf6;clear hD6 hbl6 hZ6 hL6 hvB6 hf6 H45 g0 g1;go_wp2;go_ret;refine⟨rfl,⟨?_,HN.out,HH.out.r,HH.out.bD,HH.out.b9,HH.out.g.fr HF6.out HDS.out,Nat.le_trans HH.out.bw HF6.out.size⟩,?_⟩
   ·obtain⟨m,q1,q2⟩:=HU5.out
    refine⟨vB',Z',P',Bl',Bd',V',Ls',vU',recN nU,recL nU xs m,_,HD6.out,HZ6.out,HL6.out,own_frT q1 HX6.out (fun g hg hm=>own_ne q1 HD5.out (fun c f h=>by cases h) (by rw[hg,List.mem_singleton.1 hm])),?_,?_,owns_low HV6.out (Nat.le_trans HH.out.bw HF5.out.size),by have h1:=wrp_len HN.out.e (wdL nt 10 20 n') R;have h2:=HN.out.s;omega,Nat.le_trans HF5.out.size HBL6.out⟩
    ·unfold recN;split <;> omega
    ·intro x hx
     have hx':x∈xs++m:=by
      unfold recL at hx;split at hx
      ·exact List.mem_of_mem_drop hx
      ·exact hx
     rcases List.mem_append.1 hx' with q | q
     ·exact H1.out x q
     ·exact q2 x q
   ·have h:=HF6.out
    rw[HSE.out]at h;exact Chg.of h HU0.out HH.out.bD
abbrev pgC (ao:Int)(ab:Bool)(fo:Int)(fb:Bool)(a1 a2 gx b1 b2 c1 c2:Int)(aS:Option Addr)(nS cS:Nat)(moved:Bool)(t:ByteArray)(vB:Value)(nU nR:Nat):Array Value:=#[.int .i64 ao,.bool ab,.int .i64 fo,.bool fb,.int .i64 a1,.int .i64 a2,.int .i64 gx,.int .i64 b1,.int .i64 b2,.int .i64 c1,.int .i64 c2,.slice aS nS cS,.bool moved,.string t,vB,.int .i64 (nU:Nat),.int .i64 (nR:Nat)]
set_option maxRecDepth 10000 in
set_option maxHeartbeats 8000000 in
theorem page_any (D Z B kB cB nU cU nR cR nS cS:Nat)(b na wi R ao fo a1 a2 gx b1 b2 c1 c2:Int)(ab fb moved:Bool)(t:ByteArray)(aB aU aR aS:Option Addr)(L:List Int)(w:World)(hD:w.heap[D]?=some (.cells (docC b na wi R t (.slice aB kB cB) Z (.slice aU nU cU) (.slice aR nR cR)) 85 (0,0)))(hB:w.ownsRow B 3 1 (.slice aB kB cB) kB (ints64 L))(hk:kB≤100000) :
 Calls Tryz.prog 26 #[.pointer (some ⟨D,0,none⟩),.agg #[.int .i64 ao,.bool ab,.int .i64 fo,.bool fb,.int .i64 a1,.int .i64 a2,.int .i64 gx,.int .i64 b1,.int .i64 b2,.int .i64 c1,.int .i64 c2,.slice aS nS cS,.bool moved]] w fun e w'=>∃vB',e=.returned (.agg (pgC ao ab fo fb a1 a2 gx b1 b2 c1 c2 aS nS cS moved t vB' nU nR))∧w'.ownsRow w.heap.size 3 1 vB' kB (ints64 L)∧Fr [] w w':=by
 obtain⟨wb,hwb⟩:∃wb,wb=(w.alloc (.cells #[.int .i64 ao,.bool ab,.int .i64 fo,.bool fb,.int .i64 a1,.int .i64 a2,.int .i64 gx,.int .i64 b1,.int .i64 b2,.int .i64 c1,.int .i64 c2,.slice aS nS cS,.bool moved] 31)).alloc (.cells #[.int .i64 0,.bool false,.int .i64 0,.bool false,.int .i64 0,.int .i64 0,.int .i64 0,.int .i64 0,.int .i64 0,.int .i64 0,.int .i64 0,.slice none 0 0,.bool false,.string ⟨#[]⟩,.slice none 0 0,.int .i64 0,.int .i64 0] 34):=⟨_,rfl⟩;have HFb:=hid (show Fr [] w wb by rw[hwb];exact((Fr.refl [] w).alloc _).alloc _);have HBb:=hid (show wb.heap[w.heap.size]?=some (.cells #[.int .i64 ao,.bool ab,.int .i64 fo,.bool fb,.int .i64 a1,.int .i64 a2,.int .i64 gx,.int .i64 b1,.int .i64 b2,.int .i64 c1,.int .i64 c2,.slice aS nS cS,.bool moved] 31 (0,0)) by rw[hwb];exact obj_fr (obj_new w _) ((Fr.refl [] _).alloc _) List.not_mem_nil)
 have HRb:=hid (show wb.heap[w.heap.size+1]?=some (.cells #[.int .i64 0,.bool false,.int .i64 0,.bool false,.int .i64 0,.int .i64 0,.int .i64 0,.int .i64 0,.int .i64 0,.int .i64 0,.int .i64 0,.slice none 0 0,.bool false,.string ⟨#[]⟩,.slice none 0 0,.int .i64 0,.int .i64 0] 34 (0,0)) by
  have h:=obj_new (w.alloc (.cells #[.int .i64 ao,.bool ab,.int .i64 fo,.bool fb,.int .i64 a1,.int .i64 a2,.int .i64 gx,.int .i64 b1,.int .i64 b2,.int .i64 c1,.int .i64 c2,.slice aS nS cS,.bool moved] 31)) (.cells #[.int .i64 0,.bool false,.int .i64 0,.bool false,.int .i64 0,.int .i64 0,.int .i64 0,.int .i64 0,.int .i64 0,.int .i64 0,.int .i64 0,.slice none 0 0,.bool false,.string ⟨#[]⟩,.slice none 0 0,.int .i64 0,.int .i64 0] 34)
  rw[←hwb]at h;simpa using h)
 have HDb:=hid (obj_fr hD HFb.out List.not_mem_nil);have H54:=hid (fun(Y:World) (hf:Fr [] wb Y)=>clone_i Y B kB _ _ (owns_fr0 (owns_fr0 hB HFb.out) hf) hk (fun u hu=>by obtain⟨x,_,rfl⟩:=List.mem_map.1 hu;rfl));have HK:=hid (fun(wz:World) (hf:Fr [] wb wz)=>show wz.cell? ⟨w.heap.size,0,none⟩=some (.int .i64 ao)∧wz.cell? ⟨w.heap.size,1,none⟩=some (.bool ab)∧wz.cell? ⟨w.heap.size,2,none⟩=some (.int .i64 fo)∧wz.cell? ⟨w.heap.size,3,none⟩=some (.bool fb)∧wz.cell? ⟨w.heap.size,4,none⟩=some (.int .i64 a1)∧wz.cell? ⟨w.heap.size,5,none⟩=some (.int .i64 a2)∧wz.cell? ⟨w.heap.size,6,none⟩=some (.int .i64 gx)∧wz.cell? ⟨w.heap.size,7,none⟩=some (.int .i64 b1)∧wz.cell? ⟨w.heap.size,8,none⟩=some (.int .i64 b2)∧wz.cell? ⟨w.heap.size,9,none⟩=some (.int .i64 c1)∧wz.cell? ⟨w.heap.size,10,none⟩=some (.int .i64 c2)∧wz.cell? ⟨w.heap.size,11,none⟩=some (.slice aS nS cS)∧wz.cell? ⟨w.heap.size,12,none⟩=some (.bool moved)∧wz.cell? ⟨D,4,none⟩=some (.string t)∧wz.cell? ⟨D,5,none⟩=some (.slice aB kB cB)∧wz.cell? ⟨D,7,none⟩=some (.slice aU nU cU)∧wz.cell? ⟨D,8,none⟩=some (.slice aR nR cR)from⟨obj_cell (obj_fr HBb.out hf List.not_mem_nil) (i:=0) rfl,obj_cell (obj_fr HBb.out hf List.not_mem_nil) (i:=1) rfl,obj_cell (obj_fr HBb.out hf List.not_mem_nil) (i:=2) rfl,obj_cell (obj_fr HBb.out hf List.not_mem_nil) (i:=3) rfl,obj_cell (obj_fr HBb.out hf List.not_mem_nil) (i:=4) rfl,obj_cell (obj_fr HBb.out hf List.not_mem_nil) (i:=5) rfl,obj_cell (obj_fr HBb.out hf List.not_mem_nil) (i:=6) rfl,obj_cell (obj_fr HBb.out hf List.not_mem_nil) (i:=7) rfl,obj_cell (obj_fr HBb.out hf List.not_mem_nil) (i:=8) rfl,obj_cell (obj_fr HBb.out hf List.not_mem_nil) (i:=9) rfl,obj_cell (obj_fr HBb.out hf List.not_mem_nil) (i:=10) rfl,obj_cell (obj_fr HBb.out hf List.not_mem_nil) (i:=11) rfl,obj_cell (obj_fr HBb.out hf List.not_mem_nil) (i:=12) rfl,obj_cell (obj_fr HDb.out hf List.not_mem_nil) (i:=4) rfl,obj_cell (obj_fr HDb.out hf List.not_mem_nil) (i:=5) rfl,obj_cell (obj_fr HDb.out hf List.not_mem_nil) (i:=7) rfl,obj_cell (obj_fr HDb.out hf List.not_mem_nil) (i:=8) rfl⟩);have hDl:=obj_lt hD;have hwl:w.heap.size+1<wb.heap.size:=obj_lt HRb.out;have hDw:D<wb.heap.size:=obj_lt HDb.out;have hne1:¬D=w.heap.size+1:=by omega
 have hne2:¬w.heap.size+1=D:=by omega
 have HS0:=HK.out wb (Fr.refl [] wb);obtain⟨q0,q1,q2,q3,q4,q5,q6,q7,q8,q9,q10,q11,q12,q13,q14,q15,q16⟩:=HS0;clear hD hB;go_enter Tryz.func26,Tryz.ntmps26;go_wp2_with fail;rw[←hwb];clear hwb;go_region_held3 (fun wz=>wz.cell? ⟨w.heap.size,0,none⟩=some (.int .i64 ao)∧wz.cell? ⟨w.heap.size,1,none⟩=some (.bool ab)∧wz.cell? ⟨w.heap.size,2,none⟩=some (.int .i64 fo)∧wz.cell? ⟨w.heap.size,3,none⟩=some (.bool fb)∧wz.cell? ⟨w.heap.size,4,none⟩=some (.int .i64 a1)∧wz.cell? ⟨w.heap.size,5,none⟩=some (.int .i64 a2)∧wz.cell? ⟨w.heap.size,6,none⟩=some (.int .i64 gx)∧wz.cell? ⟨w.heap.size,7,none⟩=some (.int .i64 b1)∧wz.cell? ⟨w.heap.size,8,none⟩=some (.int .i64 b2)∧wz.cell? ⟨w.heap.size,9,none⟩=some (.int .i64 c1)∧wz.cell? ⟨w.heap.size,10,none⟩=some (.int .i64 c2)∧wz.cell? ⟨w.heap.size,11,none⟩=some (.slice aS nS cS)∧wz.cell? ⟨w.heap.size,12,none⟩=some (.bool moved)∧wz.cell? ⟨D,4,none⟩=some (.string t)∧wz.cell? ⟨D,5,none⟩=some (.slice aB kB cB)∧wz.cell? ⟨D,7,none⟩=some (.slice aU nU cU)∧wz.cell? ⟨D,8,none⟩=some (.slice aR nR cR)) (first | with_reducible exact HS1 | with_reducible exact HK.out _ HKK.out | go_keep)
  (first
    | (go_at_call 54;refine(H54.out _ ?fa).mono ?_;(case fa=>exact(Fr.refl [] wb).drew);rintro e w2 ⟨v2,rfl,own2,hf2⟩;obtain⟨a2',c2',hv2,_⟩:=Wr.owns_any own2;subst hv2;have Hw2:=hid (show Fr [] wb w2 from Fr.trans (Fr.refl [] wb).drew hf2);have HO2:=hid own2;have HS1:=HK.out _ Hw2.out;have HF2:=hid (HFb.out.trans Hw2.out);have HR2:=hid (obj_fr HRb.out Hw2.out List.not_mem_nil);have r0:=obj_cell HR2.out (i:=0) (v:=.int .i64 0) rfl;have k0:=obj_froz HR2.out 0;have r1:=obj_cell HR2.out (i:=1) (v:=.bool false) rfl;have k1:=obj_froz HR2.out 1;have r2:=obj_cell HR2.out (i:=2) (v:=.int .i64 0) rfl;have k2:=obj_froz HR2.out 2;have r3:=obj_cell HR2.out (i:=3) (v:=.bool false) rfl;have k3:=obj_froz HR2.out 3;have r4:=obj_cell HR2.out (i:=4) (v:=.int .i64 0) rfl;have k4:=obj_froz HR2.out 4;have r5:=obj_cell HR2.out (i:=5) (v:=.int .i64 0) rfl;have k5:=obj_froz HR2.out 5;have r6:=obj_cell HR2.out (i:=6) (v:=.int .i64 0) rfl;have k6:=obj_froz HR2.out 6;have r7:=obj_cell HR2.out (i:=7) (v:=.int .i64 0) rfl;have k7:=obj_froz HR2.out 7;have r8:=obj_cell HR2.out (i:=8) (v:=.int .i64 0) rfl;have k8:=obj_froz HR2.out 8;have r9:=obj_cell HR2.out (i:=9) (v:=.int .i64 0) rfl;have k9:=obj_froz HR2.out 9;have r10:=obj_cell HR2.out (i:=10) (v:=.int .i64 0) rfl;have k10:=obj_froz HR2.out 10;have r11:=obj_cell HR2.out (i:=11) (v:=.slice none 0 0) rfl;have k11:=obj_froz HR2.out 11;have r12:=obj_cell HR2.out (i:=12) (v:=.bool false) rfl;have k12:=obj_froz HR2.out 12;have r13:=obj_cell HR2.out (i:=13) (v:=.string ⟨#[]⟩) rfl;have k13:=obj_froz HR2.out 13;have r14:=obj_cell HR2.out (i:=14) (v:=.slice none 0 0) rfl;have k14:=obj_froz HR2.out 14;have r15:=obj_cell HR2.out (i:=15) (v:=.int .i64 0) rfl;have k15:=obj_froz HR2.out 15;have r16:=obj_cell HR2.out (i:=16) (v:=.int .i64 0) rfl;have k16:=obj_froz HR2.out 16;have HKK:=hid (show Fr [] w w2 from HF2.out);clear own2 hf2))
 all_goals (
  go_wp2
  refine bodyPost_ret (results_cell_row (t:=34) (fr:=(0,0)) rfl _ _ (w.heap.size+1) _ _ rfl (obj_set (obj_set (obj_set (obj_set (obj_set (obj_set (obj_set (obj_set (obj_set (obj_set (obj_set (obj_set (obj_set (obj_set (obj_set (obj_set (obj_set HR2.out 0 _) 1 _) 2 _) 3 _) 4 _) 5 _) 6 _) 7 _) 8 _) 9 _) 10 _) 11 _) 12 _) 13 _) 14 _) 15 _) 16 _) Tryz.underlying34 rfl (by kernel_rfl)) rfl ?_
  refine⟨.slice a2' kB c2',by simp,?_,?_⟩
  ·have HO3:=hid (show w2.ownsRow w.heap.size 3 1 (.slice a2' kB c2') kB (ints64 L)from owns_low HO2.out (by show w.heap.size≤wb.heap.size;omega))
   have hno:(Value.slice a2' kB c2').ownBlock≠some (w.heap.size+1):=fun e=>by
    have h:=(HO2.out.lt _ e).1
    have h2:wb.heap.size≤w.heap.size+1:=h
    omega
   iterate 17 refine own_set ?_ hno
   exact HO3.out
  ·have hge:w.heap.size≤w.heap.size+1:=Nat.le_succ _
   iterate 17 refine Fr.set_new ?_ hge
   exact HF2.out)
theorem removal_yes (f u:Nat)(bk:Bool)(w:World)(h:f≠u):Calls Tryz.prog 94 #[.int .i64 (f:Nat),.int .i64 (u:Nat),.bool bk] w fun e w'=>e=.returned (.iface 88 (.agg #[.int .i64 (f:Nat),.int .i64 (u:Nat),.string ⟨#[]⟩,.bool false,.bool bk]))∧w'=w:=by
 have hb:(((f:Nat):Int) == ((u:Nat):Int))=false:=by simp;omega
 have hb2:¬((f:Nat):Int)=((u:Nat):Int):=by omega
 clear h;go_enter Tryz.func94,Tryz.ntmps94;go_wp2;go_ret;exact⟨by simp,rfl⟩
theorem removal_no (f:Nat)(bk:Bool)(w:World):Calls Tryz.prog 94 #[.int .i64 (f:Nat),.int .i64 (f:Nat),.bool bk] w fun e w'=>e=.returned .nilIface∧w'=w:=by
 go_enter Tryz.func94,Tryz.ntmps94;go_wp2;go_ret;exact⟨rfl,rfl⟩
set_option maxRecDepth 10000 in
set_option maxHeartbeats 2000000 in
theorem insertion_any (B D n m lo:Nat)(R:Int)(t c:ByteArray)(w:World)(h:Doc w B D R t n lo)(hc:c.size≤1000000)(hm:Dec.Ends c m) :
 Calls Tryz.prog 51 #[.pointer (some ⟨D,0,none⟩),.string c] w fun e w'=>e=.returned (.iface 88 (.agg #[.int .i64 (t.size:Nat),.int .i64 (t.size:Nat),.string (cln c m),.bool true,.bool true]))∧Fr [] w w':=by
 obtain⟨vB,Z,P,Bl,Bd,V,Ls,vU,nU,xs,L,hD,hZ,_⟩:=h.x;have H93:=hid (selected_any D Z P 2 10 20 R _ _ 0 t vB vU (.slice none 0 0) _ _ false w hD hZ);rw[Int.min_self,Int.max_self]at H93;have H43:=hid (fun(Y:World) (hf:Fr [] w Y)=>clean_any c m Y hc hm (tab_fr h.g.f.t3 hf) (tab_fr h.g.f.t4 hf));generalize cln c m=cc at *;clear h hD hZ hm;go_enter Tryz.func51,Tryz.ntmps51;go_wp2_with fail;refine H93.out.mono ?_;rintro e w1 ⟨rfl,hf1⟩;have HF1:=hid hf1;have H43b:=hid (H43.out w1 hf1);clear hf1 H93 H43;go_wp2_with fail;refine H43b.out.mono ?_;rintro e w2 ⟨rfl,hb2⟩;have HF2:=hid (HF1.out.trans (Fr.of_below hb2));clear hb2 H43b;go_wp2;go_ret;exact⟨rfl,HF2.out⟩
def prv (t:ByteArray)(n:Nat):Int:=best (bnd t n) (((t.size:Nat):Int) - 1) (bnd t n).length
theorem ahead_any (t:ByteArray)(n g cap:Nat)(w:World)(hend:Dec.Ends t n)(hs:t.size≤100000)(h0:0<t.size)(hc:∀j,j<(bnd t n).length→w.cell? ⟨g,j,none⟩=some (.int .i64 ((bnd t n).getD j 0))) :
 Calls Tryz.prog 47 #[.slice (some ⟨g,0,none⟩) (bnd t n).length cap,.int .i64 ((t.size:Nat):Int)] w fun e w'=>e=.returned (.int .i64 (prv t n))∧Fr [] w w':=by
 have hr:=rises_bnd hend;have hmm:min (max (((t.size:Nat):Int) - 1) 0) ((t.size:Nat):Int)=((t.size:Nat):Int) - 1:=by omega
 obtain⟨k,hk⟩:=cut_exists (min (max (((t.size:Nat):Int) - 1) 0) ((t.size:Nat):Int)) (bnd t n) hr.sorted;have hbl:=Wr.bnd_len hend;have h1:=Cls.fn35_any (bnd t n) _ hr (((t.size:Nat):Int) - 1) false k g cap w (by omega) hk (by rw[hbl];have:=(bix_len t n).1;have:=Dec.le_pos t n;have:=hend.1;unfold cn;omega) hc;rw[hmm]at h1 hk;rw[←snap_down hr hk (by omega)]at h1;have H:=hid h1;have hsI:((t.size:Nat):Int)≤100000:=by omega
 have h0I:0<((t.size:Nat):Int):=by omega
 obtain⟨p,hp⟩:∃p,p=prv t n:=⟨_,rfl⟩;rw[←hp];have HP:=hid (show best (bnd t n) (((t.size:Nat):Int) - 1) (bnd t n).length=p from hp.symm);rw[HP.out]at H;generalize (bnd t n).length=l at *;generalize ((t.size:Nat):Int)=z at *;clear h1 hk hmm hc hr hbl hend hp HP;go_enter Tryz.func47,Tryz.ntmps47;go_wp2_with fail;refine H.out.mono ?_;rintro e w1 ⟨rfl,q,rfl⟩;go_wp2;go_ret;exact⟨rfl,fr_drewN _ _⟩
theorem best_le (l:List Int){x:Int}(hx:0≤x):∀k,best l x k≤x
 | 0=>hx
 | k+1=>by
   rw[best];split
   ·rename_i h;exact h
   ·exact best_le l hx k
theorem prv_in {t:ByteArray}{n:Nat}(hend:Dec.Ends t n)(h0:0<t.size):∃p:Nat,prv t n=p∧p<t.size:=by
 have h1:=best_in (rises_bnd hend) (by omega) (((t.size:Nat):Int) - 1) (bnd t n).length (Nat.le_refl _);have h2:=best_le (bnd t n) (x:=((t.size:Nat):Int) - 1) (by omega) (bnd t n).length;exact⟨(prv t n).toNat,by unfold prv;omega,by unfold prv;omega⟩
theorem ahead_nil (t:ByteArray)(n g cap:Nat)(w:World)(hend:Dec.Ends t n)(h0:t.size=0)(hc:∀j,j<(bnd t n).length→w.cell? ⟨g,j,none⟩=some (.int .i64 ((bnd t n).getD j 0))) :
 Calls Tryz.prog 47 #[.slice (some ⟨g,0,none⟩) (bnd t n).length cap,.int .i64 0] w fun e w'=>e=.returned (.int .i64 0)∧Fr [] w w':=by
 have hr:=rises_bnd hend;obtain⟨k,hk⟩:=cut_exists (min (max (-1) 0) ((t.size:Nat):Int)) (bnd t n) hr.sorted;have hbl:=Wr.bnd_len hend;have h1:=Cls.fn35_any (bnd t n) _ hr (-1) false k g cap w (by omega) hk (by rw[hbl];have:=(bix_len t n).1;have:=Dec.le_pos t n;have:=hend.1;unfold cn;omega) hc;have hmm:min (max (-1) 0) ((t.size:Nat):Int)=0:=by omega
 rw[hmm]at h1 hk;rw[←snap_down hr hk (by omega)]at h1;have hb:best (bnd t n) 0 (bnd t n).length=0:=by
  have q1:=best_le (bnd t n) (x:=0) (by omega) (bnd t n).length;have q2:=(best_in hr (by omega) 0 (bnd t n).length (Nat.le_refl _)).1;omega
 rw[hb]at h1;have H:=hid h1;generalize (bnd t n).length=l at *;clear h1 hk hmm hc hr hbl hend hb;go_enter Tryz.func47,Tryz.ntmps47;go_wp2_with fail;refine H.out.mono ?_;rintro e w1 ⟨rfl,q,rfl⟩;go_wp2;go_ret;exact⟨rfl,fr_drewN _ _⟩
set_option maxRecDepth 10000 in
set_option maxHeartbeats 2000000 in
theorem erasure_yes (B D n p lo:Nat)(R:Int)(t:ByteArray)(w:World)(h:Doc w B D R t n lo)(h0:0<t.size)(hp:prv t n=p)(hpt:p<t.size) :
 Calls Tryz.prog 52 #[.pointer (some ⟨D,0,none⟩)] w fun e w'=>e=.returned (.iface 88 (.agg #[.int .i64 (p:Nat),.int .i64 (t.size:Nat),.string ⟨#[]⟩,.bool false,.bool true]))∧Fr [] w w':=by
 obtain⟨vB,Z,P,Bl,Bd,V,Ls,vU,nU,xs,L,hD,hZ,_⟩:=h.x;have H93:=hid (selected_any D Z P 2 10 20 R _ _ 0 t vB vU (.slice none 0 0) _ _ false w hD hZ);rw[Int.min_self,Int.max_self]at H93;have HD:=hid hD;have hs:=h.t.s;have H20:=hid (fun(Y:World) (hf:Fr [] w Y)=>Cls.fn25_any t Y (by omega) (tab_fr h.g.f.t9 hf));have HE:=hid h.t.e;have HA:=hid (fun(Y:World) (g cap:Nat) (hc:∀j,j<(bnd t n).length→Y.cell? ⟨g,j,none⟩=some (.int .i64 ((bnd t n).getD j 0)))=>ahead_any t n g cap Y h.t.e (by omega) h0 hc);rw[hp]at HA;have HRM:=hid (fun(Y:World)=>removal_yes p t.size true Y (by omega));have HBL:=hid (show 0<(bnd t n).length from(rises_bnd h.t.e).len);clear h hD hZ hp;go_enter Tryz.func52,Tryz.ntmps52;go_wp2_with fail;refine H93.out.mono ?_;rintro e w1 ⟨rfl,hf1⟩;have HF1:=hid hf1;have HD1:=hid (obj_fr HD.out hf1 List.not_mem_nil);have d4:=obj_cell HD1.out (i:=4) (v:=.string t) rfl;have H20b:=hid (H20.out w1 hf1);clear hf1 H93 H20;go_wp2_with fail;refine H20b.out.mono ?_;rintro e w2 ⟨n',v,he',rfl,own2,hb2⟩;have e:=Dec.ends_unique he' HE.out;subst e;obtain⟨g,cap,hv⟩:=owns_shape_pos HBL.out own2;subst hv;have HF2:=hid (HF1.out.trans (Fr.of_below hb2));have HAb:=hid (HA.out w2 g cap (fun j hj=>by rw[own2.cellAt _ (by omega)];exact Wr.ints_get hj));clear own2 hb2 he' H20b HA d4;generalize (bnd t n').length=l at *;go_wp2_with fail;refine HAb.out.mono ?_;rintro e w3 ⟨rfl,hf3⟩;have HF3:=hid (HF2.out.trans hf3);clear hf3 HAb;go_wp2_with fail;refine(HRM.out w3).mono ?_;rintro e w4 ⟨rfl,rfl⟩;go_wp2;go_ret;exact⟨rfl,HF3.out⟩
set_option maxRecDepth 10000 in
set_option maxHeartbeats 2000000 in
theorem erasure_no (B D n lo:Nat)(R:Int)(t:ByteArray)(w:World)(h:Doc w B D R t n lo)(h0:t.size=0) :
 Calls Tryz.prog 52 #[.pointer (some ⟨D,0,none⟩)] w fun e w'=>e=.returned .nilIface∧Fr [] w w':=by
 obtain⟨vB,Z,P,Bl,Bd,V,Ls,vU,nU,xs,L,hD,hZ,_⟩:=h.x;have H93:=hid (selected_any D Z P 2 10 20 R _ _ 0 t vB vU (.slice none 0 0) _ _ false w hD hZ);rw[Int.min_self,Int.max_self,h0]at H93;have HD:=hid hD;have hs:=h.t.s;have H20:=hid (fun(Y:World) (hf:Fr [] w Y)=>Cls.fn25_any t Y (by omega) (tab_fr h.g.f.t9 hf));have HE:=hid h.t.e;have HA:=hid (fun(Y:World) (g cap:Nat) (hc:∀j,j<(bnd t n).length→Y.cell? ⟨g,j,none⟩=some (.int .i64 ((bnd t n).getD j 0)))=>ahead_nil t n g cap Y h.t.e h0 hc);have HRM:=hid (fun(Y:World)=>removal_no 0 true Y);have HBL:=hid (show 0<(bnd t n).length from(rises_bnd h.t.e).len);clear h hD hZ h0;go_enter Tryz.func52,Tryz.ntmps52;go_wp2_with fail;refine H93.out.mono ?_;rintro e w1 ⟨rfl,hf1⟩;have HF1:=hid hf1;have HD1:=hid (obj_fr HD.out hf1 List.not_mem_nil);have d4:=obj_cell HD1.out (i:=4) (v:=.string t) rfl;have H20b:=hid (H20.out w1 hf1);clear hf1 H93 H20;go_wp2_with fail;refine H20b.out.mono ?_;rintro e w2 ⟨n',v,he',rfl,own2,hb2⟩;have e:=Dec.ends_unique he' HE.out;subst e;obtain⟨g,cap,hv⟩:=owns_shape_pos HBL.out own2;subst hv;have HF2:=hid (HF1.out.trans (Fr.of_below hb2));have HAb:=hid (HA.out w2 g cap (fun j hj=>by rw[own2.cellAt _ (by omega)];exact Wr.ints_get hj));clear own2 hb2 he' H20b HA d4;generalize (bnd t n').length=l at *;go_wp2_with fail;refine HAb.out.mono ?_;rintro e w3 ⟨rfl,hf3⟩;have HF3:=hid (HF2.out.trans hf3);clear hf3 HAb;go_wp2_with fail;refine(HRM.out w3).mono ?_;rintro e w4 ⟨rfl,rfl⟩;go_wp2;go_ret;exact⟨rfl,HF3.out⟩
abbrev opC (d:Int)(ext:Bool)(a x:Int)(bk:Bool)(c:ByteArray):Array Value:=#[.int .i64 d,.bool ext,.int .i64 a,.int .i64 x,.bool bk,.string c]
set_option maxRecDepth 10000 in
set_option maxHeartbeats 2000000 in
theorem deed_ins (D:Nat)(ext bk:Bool)(a x:Int)(c:ByteArray)(v:Value)(w:World)(h:∀Y,Fr [] w Y→Calls Tryz.prog 51 #[.pointer (some ⟨D,0,none⟩),.string c] Y fun e w'=>e=.returned v∧Fr [] Y w') :
 Calls Tryz.prog 25 #[.pointer (some ⟨D,0,none⟩),.agg (opC 11 ext a x bk c)] w fun e w'=>e=.returned v∧Fr [] w w':=by
 obtain⟨wb,hwb⟩:∃wb,wb=w.alloc (.cells (opC 11 ext a x bk c) 37):=⟨_,rfl⟩;have HFb:=hid (show Fr [] w wb by rw[hwb];exact(Fr.refl [] w).alloc _);have H51:=hid (h wb HFb.out);clear h;go_enter Tryz.func25,Tryz.ntmps25;go_wp2_with fail;rw[←hwb];clear hwb;refine H51.out.mono ?_;rintro e w1 ⟨rfl,hf1⟩;have HF1:=hid (HFb.out.trans hf1);clear hf1 H51;go_wp2;go_ret;exact⟨rfl,HF1.out⟩
set_option maxRecDepth 10000 in
set_option maxHeartbeats 2000000 in
theorem deed_era (D:Nat)(ext bk:Bool)(a x:Int)(c:ByteArray)(v:Value)(w:World)(h:∀Y,Fr [] w Y→Calls Tryz.prog 52 #[.pointer (some ⟨D,0,none⟩)] Y fun e w'=>e=.returned v∧Fr [] Y w') :
 Calls Tryz.prog 25 #[.pointer (some ⟨D,0,none⟩),.agg (opC 12 ext a x bk c)] w fun e w'=>e=.returned v∧Fr [] w w':=by
 obtain⟨wb,hwb⟩:∃wb,wb=w.alloc (.cells (opC 12 ext a x bk c) 37):=⟨_,rfl⟩;have HFb:=hid (show Fr [] w wb by rw[hwb];exact(Fr.refl [] w).alloc _);have H52:=hid (h wb HFb.out);clear h;go_enter Tryz.func25,Tryz.ntmps25;go_wp2_with fail;rw[←hwb];clear hwb;refine H52.out.mono ?_;rintro e w1 ⟨rfl,hf1⟩;have HF1:=hid (HFb.out.trans hf1);clear hf1 H52;go_wp2;go_ret;exact⟨rfl,HF1.out⟩
end Go.Proofs.YtnakejhohdbfdacGreatDoor.Cls.Dc

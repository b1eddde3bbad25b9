import Derived.Test.YtnakejhohdbfdabGreatDoorKKpT
namespace Go.Proofs.YtnakejhohdbfdabGreatDoor
open Go.RowKit Lev Lay Bnd
def TwinsOk (Bd V:List Int)(z:Int)(Ls:List Ln):Prop:=∀i,1≤i→i<V.length→∃j g h,j<Ls.length∧gapL Bd V z Ls (nth Bd i) true=(j,g) ∧
 (((∃k,0<k∧k<Ls.length∧(lnN Ls k).f=nth Bd i)∧gapL Bd V z Ls (nth Bd i) false=(j+1,h)) ∨
  ((∀k,0<k→k<Ls.length→(lnN Ls k).f≠nth Bd i)∧gapL Bd V z Ls (nth Bd i) false=(j,h)∧(nth V (i - 1)=nth V i→g=h)∧(nth V (i - 1) % 2≠nth V i % 2→g≠h)))
theorem twins_ok {s:ByteArray}{n:Nat}(hend:Dec.Ends s n){bs:Int}{W Br Bd V:List Int}{Ls:List Ln}(T:Tame Bd V Ls)(h:0<V.length→Edges s n Br∧0<n∧(bs=0∨bs=1)∧Bd=bnd s n∧V=lvE s n bs Br∧Ls=lns s n bs W Br (Br.length+1)):TwinsOk Bd V (s.size:Nat) Ls:=by
 intro i h1 hi;obtain⟨E,hn,hb,rfl,rfl,rfl⟩:=h (by omega);have:=twins_plain hend hn hb E T h1 hi;rw[lns_len];exact this
theorem cl_cell {w:World}{B c g cap:Nat}{Bd V X:List Int}(h:w.ownsRow B 67 4 (.slice (some ⟨g,0,none⟩) c cap) c (clCells (clP Bd V X c))){i:Nat}(hi:i<c) :
 w.cell? ⟨g,i * 4,none⟩=some (.int .i64 (nth Bd i))∧w.cell? ⟨g,i * 4+2,none⟩=some (.int .i64 (nth V i)):=by
 have hl:=h.1;obtain⟨a1,_,a3,_⟩:=clCells_at _ i _ (clP_at Bd V X hi);exact⟨by rw[h.cellAt _ (by omega)];exact a1,by rw[h.cellAt _ (by omega)];exact a3⟩
set_option maxRecDepth 10000 in
set_option maxHeartbeats 4000000 in
theorem twins_good (s:ByteArray)(b:Int)(vW vB:Value)(W Br:List Int)(n:Nat)(w:World)(hF:Floor w)(hend:Dec.Ends s n)(hW:slAd w vW W)(hB:slAd w vB Br)(hs:s.size≤4096)(hWl:W.length≤4096)(hBl:Br.length≤4096)(hck:chk s n (clsOf s n) b W Br=0) :
 Calls Tryz.prog 10 #[.agg #[.string s,.int .i64 b,vW,vB]] w fun e w'=>e=.returned (.bool true)∧Fr [] w w':=by
 obtain⟨Bd,V,X,r,bs,Cs,Ls,T,TT,F,_,hex⟩:=keep_all s b W Br n hend (by omega) hck;have HTW:=hid (twins_ok hend TT hex);obtain⟨aW,cW,rfl,_⟩:=id hW;obtain⟨aB,cB,rfl,_⟩:=id hB;obtain⟨wb,hwb⟩:∃wb,wb=w.alloc (.cells #[.string s,.int .i64 b,.slice aW W.length cW,.slice aB Br.length cB] 48):=⟨_,rfl⟩;have HFb:=hid (show Fr [] w wb by rw[hwb];exact(Fr.refl [] w).alloc _);have HOb:=hid (show wb.heap[w.heap.size]?=some (.cells #[.string s,.int .i64 b,.slice aW W.length cW,.slice aB Br.length cB] 48 (0,0)) by rw[hwb];exact obj_new w _);have HA:=hid (fun(Z:World) (hf:Fr [] w Z)=>alive_any Z (hF.fr hf));have HL:=hid (fun(Z:World) (hf:Fr [] w Z)=>laid_good s b _ _ W Br Z (hF.fr hf) (hW.fr hf) (hB.fr hf) hs hWl hBl Bd V X r bs Cs Ls T);obtain⟨K,hK⟩:∃K,K=Ls.length:=⟨_,rfl⟩;obtain⟨c,hc⟩:∃c,c=V.length:=⟨_,rfl⟩;have HK:=hid hK;have HCL:=hid hc;have hK0:0<K:=by rw[hK];exact T.l0
 have hK1:K≤400:=by rw[hK];exact T.l1
 have hc1:c≤400:=by rw[hc];exact T.vl
 have HT:=hid T;have HTT:=hid TT;have HFF:=hid F;generalize W.length=nW at *;generalize Br.length=nB at *;clear hF hW hB T TT F hend hck hK hc hex;go_enter Tryz.func10,Tryz.ntmps10;go_wp2_with fail;rw[←hwb];clear hwb;refine(HA.out wb HFb.out).mono ?_;rintro e w1 ⟨rfl,hf1⟩;have HF1:=hid (HFb.out.trans hf1);have HO1:=hid (obj_fr HOb.out hf1 List.not_mem_nil);have c0:=obj_cell HO1.out (i:=0) (v:=.string s) rfl;have c1:=obj_cell HO1.out (i:=1) (v:=.int .i64 b) rfl;have c2:=obj_cell HO1.out (i:=2) (v:=.slice aW nW cW) rfl;have c3:=obj_cell HO1.out (i:=3) (v:=.slice aB nB cB) rfl;clear hf1 HA;go_wp2_with fail;refine(HL.out w1 HF1.out).mono ?_;rintro e w2 ⟨Q,P,v0,v1,v2,vL,hs2,rfl,hQ,_,⟨B,_,hLP⟩,hf2⟩;have HF2:=hid (HF1.out.trans hf2);have HKC:=hid (KC.of hQ hLP HFF.out (by omega) HTT.out HT.out.bd HT.out.vl HT.out.l0 HT.out.l1 HT.out.ll);have HQ:=hid hQ;have HLP:=hid hLP;have q0:=obj_cell hQ (i:=0) (v:=.pointer (some ⟨P,0,none⟩)) rfl
 have H31:=hid (lay_clusters Q P w2 q0 (fun v w'=>w'.ownsRow w2.heap.size 67 4 v c (clCells (clP Bd V X c))∧Fr [] w2 w') (by
  refine(clusters_any P c _ v0 v1 v2 vL _ Bd V X w2 hLP.o hLP.b hLP.v hLP.x HCL.out.symm (by rw[HT.out.vx];exact HCL.out.symm) (by rw[HT.out.bd,HCL.out]) (by omega)).mono ?_
  rintro e w' ⟨v,rfl,h1,h2⟩
  exact⟨v,rfl,h1,h2⟩))
 clear hQ hLP hf2 q0 HL c0 c1 c2 c3;go_wp2_with fail;refine H31.out.mono ?_;rintro e w3 ⟨vC,rfl,own3,hf3⟩;obtain⟨aC,cC,rfl⟩:=owns_slice own3;have HF3:=hid (HF2.out.trans hf3);have HC3:=hid own3;have HK3:=hid hf3;have q0:=obj_cell (obj_fr HQ.out hf3 List.not_mem_nil) (i:=0) (v:=.pointer (some ⟨P,0,none⟩)) rfl
 have H32:=hid (lay_lines Q P w3 q0 (fun v w'=>∃hs',w'.ownsRow w3.heap.size 72 4 v K hs'∧lnsAt w' w3.heap.size w'.heap.size hs' Ls∧Fr [] w3 w') (by
  have hLP:=HLP.out.fr HK3.out (fun k hk=>absurd hk List.not_mem_nil)
  obtain⟨U,_,hn⟩:=hLP.n
  have hll:=hLP.l
  rw[←HK.out]at hll
  refine(lines56_any P K _ U v0 v1 v2 vL _ hs2 _ w3 hLP.o hll hn hK0 (by omega) HK.out.symm HT.out.ll).mono ?_
  rintro e w' ⟨v,hs',rfl,h1,h2,_,h4⟩
  exact⟨v,rfl,hs',h1,h2,h4⟩))
 clear own3 hf3 q0 H31;go_wp2_with fail;refine H32.out.mono ?_;rintro e w4 ⟨vN,rfl,hs',own4,hl4,hf4⟩;have HF4:=hid (HF3.out.trans hf4);have HK4:=hid (HK3.out.trans hf4);obtain⟨gN,cN,rfl⟩:=owns_shape hK0 own4;have HN:=hid own4;have HLN:=hid hl4;have HC4:=hid (owns_fr0 HC3.out hf4);clear own4 hl4 hf4 H32;go_wp2_with fail;go_loopw [7] (fun a wr=>∃i:Nat,a=.int .i64 i∧1≤i∧i≤c+1∧Hid (Fr [] w4 wr)) (fun a _=>c+1 - (intOf a).toNat)
 case atStart=>exact⟨1,rfl,Nat.le_refl _,by omega,hid (Fr.refl _ _)⟩
 case round =>
  obtain⟨i,rfl,hi1,hic,HR⟩:=hrel;by_cases hi:i<c
  ·have hiI:(i:Int)<(c:Int):=by omega
   have HIi:=hid hi;obtain⟨gC,cC',hvC⟩:=owns_shape (by omega) HC4.out;cases hvC;obtain⟨p0,_⟩:=cl_cell (owns_fr0 HC4.out HR.out) hi;obtain⟨j,g,h,hj,hg1,hcase⟩:=HTW.out i hi1 (by rw[←HCL.out];exact hi);obtain⟨x,hx⟩:∃x,x=nth Bd i:=⟨_,rfl⟩;rw[←hx]at p0 hg1 hcase;obtain⟨j2,hg2,hJ⟩:∃j2,gapL Bd V (s.size:Nat) Ls x false=(j2,h)∧(((∃k,0<k∧k<Ls.length∧(lnN Ls k).f=x)∧j2=j+1)∨((∀k,0<k→k<Ls.length→(lnN Ls k).f≠x)∧j2=j∧(nth V (i - 1)=nth V i→g=h)∧(nth V (i - 1) % 2≠nth V i % 2→g≠h))):=by
    rcases hcase with⟨a1,a2⟩ | ⟨a1,a2,a3,a4⟩
    ·exact⟨_,a2,.inl ⟨a1,rfl⟩⟩
    ·exact⟨_,a2,.inr ⟨a1,rfl,a3,a4⟩⟩
   have HX:=hid hx;have HJ:=hid hJ;have H36a:=hid (HKC.out.gap wr (HK4.out.trans HR.out) x true);rw[hg1]at H36a;have H36b:=hid (fun(Y:World) (hf:Fr [] w4 Y)=>HKC.out.gap Y (HK4.out.trans hf) x false);rw[hg2]at H36b;have HP:=hid (show ∀Y,Fr [] w4 Y→∀t,t<c→Y.cell? ⟨gC,t * 4,none⟩=some (.int .i64 (nth Bd t))∧Y.cell? ⟨gC,t * 4+2,none⟩=some (.int .i64 (nth V t))from fun Y hf t ht=>cl_cell (owns_fr0 HC4.out hf) ht)
   have HNF:=hid (show ∀Y,Fr [] w4 Y→∀t,t<K→Y.cell? ⟨gN,t * 4,none⟩=some (.int .i64 (lnN Ls t).f)from fun Y hf t ht=>by
    obtain⟨vO,vX,a1,_⟩:=HLN.out t _ (lnN_get' (by rw[←HK.out];exact ht))
    have hl:=HN.out.1
    rw[(owns_fr0 HN.out hf).cellAt _ (by omega)];exact a1)
   clear hx hcase hg1 hg2 hJ;go_wp2_with fail;refine H36a.out.mono ?_;rintro e w5 ⟨rfl,hf5⟩;have HR5:=hid (HR.out.trans hf5);obtain⟨w6,hw6⟩:∃w6,w6=w5.alloc (.cells #[.int .i64 (j:Nat),.int .i64 (g:Nat)] 37):=⟨_,rfl⟩;have HR6:=hid (show Fr [] w4 w6 by rw[hw6];exact HR5.out.alloc _);have HG6:=hid (show w6.heap[w5.heap.size]?=some (.cells #[.int .i64 (j:Nat),.int .i64 (g:Nat)] 37 (0,0)) by rw[hw6];exact obj_new w5 _);have p1:=(HP.out w6 HR6.out i hi).1;rw[←HX.out]at p1;have HW6:=hid hw6;rw[hw6]at p1;clear hf5 hw6 H36a p0;go_wp2_with fail;rw[←HW6.out];refine(H36b.out _ HR6.out).mono ?_;rintro e w7 ⟨rfl,hf7⟩;have HR7:=hid (HR6.out.trans hf7);obtain⟨w8,hw8⟩:∃w8,w8=w7.alloc (.cells #[.int .i64 (j2:Nat),.int .i64 (h:Nat)] 37):=⟨_,rfl⟩;have HR8:=hid (show Fr [] w4 w8 by rw[hw8];exact HR7.out.alloc _);have HG8:=hid (show w8.heap[w5.heap.size]?=some (.cells #[.int .i64 (j:Nat),.int .i64 (g:Nat)] 37 (0,0)) by rw[hw8];exact obj_fr HG6.out (hf7.alloc _) List.not_mem_nil);have HH8:=hid (show w8.heap[w7.heap.size]?=some (.cells #[.int .i64 (j2:Nat),.int .i64 (h:Nat)] 37 (0,0)) by rw[hw8];exact obj_new w7 _);have HW8:=hid hw8;clear hf7 hw8 H36b p1;go_wp2_with fail;rw[←HW8.out];go_loopw [10,11] (fun bv kv wr=>∃(k:Nat) (bb:Bool),bv=.bool bb∧kv=.int .i64 k∧k≤K∧Hid (bb=true ↔ ∃t,0<t∧t<k∧(lnN Ls t).f=x)∧Hid (Fr [] w8 wr)) (fun _ kv _=>K - (intOf kv).toNat)
   case atStart=>exact⟨0,false,rfl,rfl,Nat.zero_le _,hid ⟨fun h=>absurd h Bool.false_ne_true,fun⟨t,_,h2,_⟩=>absurd h2 (Nat.not_lt_zero _)⟩,hid (Fr.refl _ _)⟩
   case round =>
    obtain⟨k,bb,rfl,rfl,hkK,HBB,HS⟩:=hrel;have HS4:=hid (HR8.out.trans HS.out);by_cases hk:k<K
    ·have hkI:(k:Int)<(K:Int):=by omega
     have HKk:=hid hk;have m0:=HNF.out wr HS4.out k hk;have p0:=(HP.out wr HS4.out i hi).1;rw[←HX.out]at p0;obtain⟨f,hf⟩:∃f,f=(lnN Ls k).f:=⟨_,rfl⟩;rw[←hf]at m0
     have HB2:=hid (show ∀b2:Bool,(b2=(bb || ((f == x) && decide (0<k))))→(b2=true ↔ ∃t,0<t∧t<k+1∧(lnN Ls t).f=x)from fun b2 e=>by
      rw[e,hf]
      constructor
      ·intro h
       rcases Bool.or_eq_true_iff.1 h with h | h
       ·obtain⟨t,t1,t2,t3⟩:=HBB.out.1 h
        exact⟨t,t1,by omega,t3⟩
       ·rw[Bool.and_eq_true]at h
        exact⟨k,of_decide_eq_true h.2,by omega,by simpa using h.1⟩
      ·rintro ⟨t,t1,t2,t3⟩
       rcases Nat.lt_or_eq_of_le (Nat.le_of_lt_succ t2)with h | h
       ·rw[HBB.out.2 ⟨t,t1,h,t3⟩];rfl
       ·subst h;simp[t1,t3])
     clear hf;cases bb with
     | true =>
       go_wp2_with fail;go_quiet (fail);go_wp2;go_roundw
       case rel=>exact⟨k+1,true,rfl,by go_num,HKk.out,hid (HB2.out true (by simp)),hid (Fr.drewN HS.out _)⟩
       case measure=>simp[intOf];have:=HKk.out;omega
     | false =>
       by_cases hfx:f=x
       ·subst hfx
        by_cases hk0:0<k
        ·have hk1:(0:Int)<(k:Int):=by omega
         go_wp2_with fail;go_quiet (fail);go_wp2;go_roundw
         case rel=>exact⟨k+1,true,rfl,by go_num,HKk.out,hid (HB2.out true (by simp[hk0])),hid (Fr.drewN HS.out _)⟩
         case measure=>simp[intOf];have:=HKk.out;omega
        ·obtain rfl:k=0:=by omega
         clear hk0;go_wp2_with fail;go_quiet (fail);go_wp2;go_roundw
         case rel=>exact⟨0+1,false,rfl,by go_num,HKk.out,hid (HB2.out false (by simp)),hid (Fr.drewN HS.out _)⟩
         case measure=>simp[intOf];have:=HKk.out;omega
       ·have hfb:(f == x)=false:=beq_eq_false_iff_ne.2 hfx
        go_wp2_with fail;go_quiet (fail);go_wp2;go_roundw
        case rel=>exact⟨k+1,false,rfl,by go_num,HKk.out,hid (HB2.out false (by simp[hfb])),hid (Fr.drewN HS.out _)⟩
        case measure=>simp[intOf];have:=HKk.out;omega
    ·obtain rfl:k=K:=by omega
     have hkd:decide ((k:Int)<(k:Int))=false:=by simp
     have g0:=obj_cell (obj_fr HG8.out HS.out List.not_mem_nil) (i:=0) (v:=.int .i64 (j:Nat)) rfl;have g1:=obj_cell (obj_fr HG8.out HS.out List.not_mem_nil) (i:=1) (v:=.int .i64 (g:Nat)) rfl;have h0:=obj_cell (obj_fr HH8.out HS.out List.not_mem_nil) (i:=0) (v:=.int .i64 (j2:Nat)) rfl;have h1:=obj_cell (obj_fr HH8.out HS.out List.not_mem_nil) (i:=1) (v:=.int .i64 (h:Nat)) rfl;have hj4:j≤400:=by have:=HK.out;omega
     rcases HJ.out with⟨a1,rfl⟩ | ⟨a1,rfl,a3,a4⟩
     ·obtain rfl:bb=true:=HBB.out.2 (by rw[HK.out];exact a1)
      clear a1 HBB;go_wp2;exact⟨⟨i+1,by go_num,by omega,by have:=HIi.out;omega,hid HS4.out⟩,by simp[intOf];have:=HIi.out;omega⟩
     ·obtain rfl:bb=false:=by
       cases bb with
       | false=>rfl
       | true=>obtain⟨t,t1,t2,t3⟩:=HBB.out.1 rfl;exact absurd t3 (a1 t t1 (by rw[←HK.out];exact t2))
      obtain⟨p,rfl⟩:∃p,i=p+1:=⟨i - 1,by omega⟩;have q0:=(HP.out wr HS4.out (p+1) hi).2;have q1:=(HP.out wr HS4.out p (by omega)).2;have hsub:(((p+1:Nat):Int)) - 1=(p:Int):=by omega
      have hpI:(p:Int)<(c:Int):=by omega
      rw[Nat.add_sub_cancel]at a3 a4;obtain⟨la,hla⟩:∃la,la=nth V p:=⟨_,rfl⟩;obtain⟨lb,hlb⟩:∃lb,lb=nth V (p+1):=⟨_,rfl⟩;have hla0:0≤la∧la≤1000:=by rw[hla];exact HTT.out.vb p
      have hlb0:0≤lb∧lb≤1000:=by rw[hlb];exact HTT.out.vb (p+1)
      rw[←hla,←hlb]at a3 a4;rw[←hla]at q1;rw[←hlb]at q0;have HA3:=hid a3;have HA4:=hid a4;clear HBB a1 hla hlb a3 a4;by_cases hab:la=lb
      ·obtain rfl:g=h:=HA3.out hab
       subst hab;go_wp2;exact⟨⟨p+1+1,by go_num,by omega,by have:=HIi.out;omega,hid HS4.out⟩,by simp[intOf];have:=HIi.out;omega⟩
      ·have hab2:(la == lb)=false:=beq_eq_false_iff_ne.2 hab
       by_cases hp2:la % 2=lb % 2
       ·have hp3:la.tmod 2=lb.tmod 2:=by rw[Int.tmod_eq_emod_of_nonneg hla0.1,Int.tmod_eq_emod_of_nonneg hlb0.1];exact hp2
        go_wp2;exact⟨⟨p+1+1,by go_num,by omega,by have:=HIi.out;omega,hid HS4.out⟩,by simp[intOf];have:=HIi.out;omega⟩
       ·have hgh:=HA4.out hp2
        have hgI:¬(g:Int)=(h:Int):=by omega
        have hgb:((g:Int) == (h:Int))=false:=beq_eq_false_iff_ne.2 hgI;have hgb2:(g == h)=false:=beq_eq_false_iff_ne.2 hgh;have hp3:¬la.tmod 2=lb.tmod 2:=by rw[Int.tmod_eq_emod_of_nonneg hla0.1,Int.tmod_eq_emod_of_nonneg hlb0.1];exact hp2
        go_wp2;exact⟨⟨p+1+1,by go_num,by omega,by have:=HIi.out;omega,hid HS4.out⟩,by simp[intOf];have:=HIi.out;omega⟩
  ·have hid2:decide ((i:Int)<(c:Int))=false:=by simp;omega
   have hid3:decide (i<c)=false:=by simp;omega
   go_wp2;go_ret;exact⟨rfl,HF4.out.trans HR.out⟩
set_option maxRecDepth 10000 in
set_option maxHeartbeats 4000000 in
theorem twins_none (s:ByteArray)(b:Int)(aW aB:Option Addr)(nW cW nB cB:Nat)(w:World)(hF:Floor w)
 (hL:∀Z,Fr [] w Z→Calls Tryz.prog 30 #[.agg #[.string s,.int .i64 b,.slice aW nW cW,.slice aB nB cB]] Z fun e w'=>e=.returned (.pointer none)∧Fr [] Z w') :
 Calls Tryz.prog 10 #[.agg #[.string s,.int .i64 b,.slice aW nW cW,.slice aB nB cB]] w fun e w'=>e=.returned (.bool true)∧Fr [] w w':=by
 obtain⟨wb,hwb⟩:∃wb,wb=w.alloc (.cells #[.string s,.int .i64 b,.slice aW nW cW,.slice aB nB cB] 48):=⟨_,rfl⟩;have HFb:=hid (show Fr [] w wb by rw[hwb];exact(Fr.refl [] w).alloc _);have HOb:=hid (show wb.heap[w.heap.size]?=some (.cells #[.string s,.int .i64 b,.slice aW nW cW,.slice aB nB cB] 48 (0,0)) by rw[hwb];exact obj_new w _);have HA:=hid (fun(Z:World) (hf:Fr [] w Z)=>alive_any Z (hF.fr hf));have HL:=hid hL;clear hF hL;go_enter Tryz.func10,Tryz.ntmps10;go_wp2_with fail;rw[←hwb];clear hwb;refine(HA.out wb HFb.out).mono ?_;rintro e w1 ⟨rfl,hf1⟩;have HF1:=hid (HFb.out.trans hf1);have HO1:=hid (obj_fr HOb.out hf1 List.not_mem_nil);have c0:=obj_cell HO1.out (i:=0) (v:=.string s) rfl;have c1:=obj_cell HO1.out (i:=1) (v:=.int .i64 b) rfl;have c2:=obj_cell HO1.out (i:=2) (v:=.slice aW nW cW) rfl;have c3:=obj_cell HO1.out (i:=3) (v:=.slice aB nB cB) rfl;clear hf1 HA;go_wp2_with fail;refine(HL.out w1 HF1.out).mono ?_;rintro e w2 ⟨rfl,hf2⟩;have HF2:=hid (HF1.out.trans hf2);clear hf2 c0 c1 c2 c3 HL;go_wp2;go_ret;exact⟨rfl,HF2.out⟩
theorem twins_any (s:ByteArray)(b:Int)(vW vB:Value)(W Br:List Int)(w:World)(hF:Floor w)(hW:slAd w vW W)(hB:slAd w vB Br) :
 Calls Tryz.prog 10 #[.agg #[.string s,.int .i64 b,vW,vB]] w fun e w'=>e=.returned (.bool true)∧Fr [] w w':=by
 obtain⟨aW,cW,rfl,_⟩:=id hW;obtain⟨aB,cB,rfl,_⟩:=id hB;by_cases h:∃n,Dec.Ends s n∧(s.size≤4096∧W.length≤4096∧Br.length≤4096)∧chk s n (clsOf s n) b W Br=0
 ·obtain⟨n,hend,hf,hck⟩:=h
  exact twins_good s b _ _ W Br n w hF hend hW hB hf.1 hf.2.1 hf.2.2 hck
 ·refine twins_none s b aW aB W.length cW Br.length cB w hF (fun Z hf=>laid_none s b aW aB cW cB W Br Z (hF.fr hf) (hW.fr hf) (hB.fr hf) (fun n hend hl hck=>h ⟨n,hend,hl,hck⟩))
end Go.Proofs.YtnakejhohdbfdabGreatDoor

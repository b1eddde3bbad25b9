import Derived.Test.YtnakejhohdbfdaaGreatDoorZPwF
namespace Go.Proofs.YtnakejhohdbfdaaGreatDoor
open Go.RowKit Lev Lay Bnd
set_option maxRecDepth 10000 in
set_option maxHeartbeats 8000000 in
theorem laid_good (s:ByteArray) (b:Int) (vW vB:Value) (W Br:List Int) (n:Nat) (w:World) (hF:Floor w) (hend:Dec.Ends s n) (hW:slAd w vW W) (hB:slAd w vB Br) (hs:s.size ≤ 4096) (hWl:W.length ≤ 4096) (hBl:Br.length ≤ 4096) (hck:chk s n (clsOf s n) b W Br=0) :
 Calls Tryz.prog 4 #[.agg #[.string s,.int .i64 b,vW,vB]] w fun e w'=>e=.returned (.bool true)∧Fr [] w w':=by
 obtain ⟨Bd,V,X,r,bs,Cs,Ls,T⟩:=twin_ok s b W Br n hend (by omega) hck
 obtain ⟨aW,cW0,rfl,_⟩:=id hW
 obtain ⟨aB,cB0,rfl,_⟩:=id hB
 obtain ⟨wb,hwb⟩:∃ wb,wb=w.alloc (.cells #[.string s,.int .i64 b,.slice aW W.length cW0,.slice aB Br.length cB0] 35):=⟨_,rfl⟩
 have HFb:=hid (show Fr [] w wb by rw [hwb];exact (Fr.refl [] w).alloc _)
 have HOb:=hid (show wb.heap[w.heap.size]?=some (.cells #[.string s,.int .i64 b,.slice aW W.length cW0,.slice aB Br.length cB0] 35 (0,0)) by rw [hwb];exact obj_new w _)
 have H13:=hid (fit_yes s b aW aB W.length cW0 Br.length cB0 wb hs hWl hBl)
 have H14:=hid (fun (Y:World) (hf:Fr [] w Y)=>made_good s b _ _ W Br n Y (hF.fr hf) hend (hW.fr hf) (hB.fr hf) (by omega) (by omega) hck Bd V X r bs Cs Ls T)
 have HTT:=hid T
 obtain ⟨c,hc⟩:∃ c,c=Cs.length:=⟨_,rfl⟩
 obtain ⟨K,hK⟩:∃ K,K=Ls.length:=⟨_,rfl⟩
 have hVc:V.length=c:=by rw [hc,← T.cs,clP_len]
 have HVC:=hid hVc
 have HC:=hid hc
 have HK:=hid hK
 have hc4:c ≤ 400:=by rw [← hVc];exact T.vl
 have hK0:0 < K:=by rw [hK];exact T.l0
 have hK4:K ≤ 400:=by rw [hK];exact T.l1
 have HLL:=hid T.ll
 generalize W.length=nW at *
 generalize Br.length=nB at *
 clear hW hB hF hend hck T hc hK hVc
 go_enter Tryz.func4,Tryz.ntmps4
 go_wp2_with fail
 rw [← hwb]
 clear hwb
 refine H13.out.mono ?_
 rintro e w1 ⟨rfl,hf1⟩
 have HF1:=hid (HFb.out.trans hf1)
 have HO1:=hid (obj_fr HOb.out hf1 List.not_mem_nil)
 have l0:=obj_cell HO1.out (i:=0) (v:=.string s) rfl
 have l1:=obj_cell HO1.out (i:=1) (v:=.int .i64 b) rfl
 have l2:=obj_cell HO1.out (i:=2) (v:=.slice aW nW cW0) rfl
 have l3:=obj_cell HO1.out (i:=3) (v:=.slice aB nB cB0) rfl
 have H14b:=hid (H14.out w1 HF1.out)
 clear hf1 H13 H14
 go_wp2_with fail
 refine H14b.out.mono ?_
 rintro e w2 ⟨Q,lb,rfl,hP,hD,hf2⟩
 obtain ⟨P,B,v0,v1,v2,vL,hs0,hQ,hLP⟩:=hP.out
 obtain ⟨WB,vC,vM,hm,hLD⟩:=hD.out
 have HF2:=hid (HF1.out.trans hf2)
 have HQ:=hid hQ
 have HLP:=hid hLP
 have HOC:=hid hLD.ownC
 have HOL:=hid hLD.ownL
 have HIN:=hid hLD.inn
 have HLB:=hid hLD.obj
 rw [← HC.out] at HOC
 rw [← HK.out] at HOL
 obtain ⟨aC,cC,hvC⟩:=owns_slice HOC.out
 obtain ⟨aM,cM,hvM⟩:=owns_slice HOL.out
 subst hvC hvM
 obtain ⟨gM,cM',hvM⟩:=owns_shape hK0 HOL.out
 cases hvM
 clear hP hD hf2 hQ hLP hLD H14b l0 l1 l2 l3
 go_wp2_with fail
 go_loopw [7] (fun a wr=>∃ k:Nat,a=.int .i64 k∧k ≤ 2∧Hid (Fr [] w2 wr)) (fun a _=>2 - (intOf a).toNat)
 case atStart=>exact ⟨0,rfl,by omega,hid (Fr.refl _ _)⟩
 case round =>
  rename World=>wo
  obtain ⟨k,rfl,hk2,HR⟩:=hrel
  by_cases hlt:k < 2
  ·have hkI:(k:Int) < 2:=by omega
   have q0:=obj_cell (obj_fr HQ.out HR.out List.not_mem_nil) (i:=0) (v:=.pointer (some ⟨P,0,none⟩)) rfl
   have H15:=hid (lay_clusters Q P wo q0 (fun v w'=>w'.ownsRow wo.heap.size 48 4 v c (clCells Cs)∧Fr [] wo w') (by
    have hl:=HLP.out.fr HR.out (fun k hk=>absurd hk List.not_mem_nil)
    have hp:=clusters_any P c B v0 v1 v2 vL (.int .i64 r) Bd V X wo hl.o hl.b hl.v hl.x HVC.out (by rw [HTT.out.vx,HVC.out]) (by rw [HTT.out.bd,HVC.out]) (by omega)
    rw [show clP Bd V X c=Cs by rw [← HVC.out];exact HTT.out.cs] at hp
    exact hp))
   clear q0
   go_wp2_with fail
   refine H15.out.mono ?_
   rintro e w3 ⟨vCl,rfl,own3,hf3⟩
   have HR3:=hid (HR.out.trans hf3)
   have q0:=obj_cell (obj_fr HQ.out HR3.out List.not_mem_nil) (i:=0) (v:=.pointer (some ⟨P,0,none⟩)) rfl
   have H16:=hid (lay_lines Q P w3 q0 (fun v w'=>∃ hs',w'.ownsRow w3.heap.size 51 4 v K hs'∧lnsAt w' w3.heap.size w'.heap.size hs' Ls∧Sep hs' K∧Fr [] w3 w') (by
    have hl:=HLP.out.fr HR3.out (fun k hk=>absurd hk List.not_mem_nil)
    obtain ⟨U,_,hn⟩:=hl.n
    have hll:=hl.l
    rw [← HK.out] at hll
    refine (lines56_any P K B U v0 v1 v2 vL (.int .i64 r) hs0 Ls w3 hl.o hll hn hK0 (by omega) HK.out.symm HLL.out).mono ?_
    rintro e w' ⟨v,hs',rfl,h1,h2,h3,h4⟩
    exact ⟨v,rfl,hs',h1,h2,h3,h4⟩))
   obtain ⟨a8,c8,hv8⟩:=owns_slice own3
   subst hv8
   have HO3:=hid own3
   have hz3:=hf3.size
   clear q0 H15 own3 hf3
   go_wp2_with fail
   refine H16.out.mono ?_
   rintro e w4 ⟨vN,rfl,hs',own4,hl4,hsep,hf4⟩
   obtain ⟨gN,cN,hvN⟩:=owns_shape hK0 own4
   subst hvN
   have HR4:=hid (HR3.out.trans hf4)
   have HN4:=hid own4
   have HL4:=hid hl4.from
   have HSP:=hid hsep
   have HO4:=hid (owns_fr0 HO3.out hf4)
   have hz4:=hf4.size
   have hzR:=HR.out.size
   have HLB4:=hid (obj_fr HLB.out HR4.out List.not_mem_nil)
   have m2:=obj_cell HLB4.out (i:=2) (v:=.slice aC c cC) rfl
   have m3:=obj_cell HLB4.out (i:=3) (v:=.slice (some ⟨gM,0,none⟩) K cM) rfl
   clear own4 hl4 hsep hf4 H16
   go_wp2_with fail
   clear m2 m3 HLB4
   go_loopw [10] (fun a wr2=>∃ (i:Nat) (xs:List Value),a=.int .i64 i∧i ≤ c∧Hid (Fr [] w2 wr2)∧Hid (wr2.ownsRow wo.heap.size 48 4 (.slice a8 c c8) c xs)∧Hid (∀ j,i * 4 ≤ j→xs[j]?=(clCells Cs)[j]?)∧Hid (wr2.ownsRow w3.heap.size 51 4 (.slice (some ⟨gN,0,none⟩) K cN) K hs')∧Hid (lnsFrom wr2 w3.heap.size hs' Ls 0)) (fun a _=>c - (intOf a).toNat)
   case atStart=>exact ⟨0,_,rfl,Nat.zero_le _,HR4,HO4,hid (fun _ _=>rfl),HN4,HL4⟩
   case round =>
    obtain ⟨i,xs,rfl,hic,HRa,HOa,HXa,HNa,HLa⟩:=hrel
    by_cases hil:i < c
    ·have hiI:(i:Int) < (c:Int):=by omega
     obtain ⟨g8,c8',hv8⟩:=owns_shape (by omega) HOa.out
     cases hv8
     obtain ⟨gC,cC',hvC⟩:=owns_shape (by omega) HOC.out
     cases hvC
     obtain ⟨x,hx⟩:∃ x,Cs[i]?=some x:=⟨_,List.getElem?_eq_getElem (by rw [← HC.out];exact hil)⟩
     obtain ⟨e0,e1,e2,e3⟩:=clCells_at Cs i x hx
     obtain ⟨x0,x1,x2,x3⟩:=x
     dsimp only at e0 e1 e2 e3
     have hxl:xs.length=c * 4:=HOa.out.1
     have HOC2:=hid (owns_fr0 HOC.out HRa.out)
     have d0:wr.cell? ⟨gC,i * 4,none⟩=some (.int .i64 x0):=by rw [HOC2.out.cellAt _ (by omega)];exact e0
     have d1:wr.cell? ⟨gC,i * 4 + 1,none⟩=some (.int .i64 x1):=by rw [HOC2.out.cellAt _ (by omega)];exact e1
     have d2:wr.cell? ⟨gC,i * 4 + 2,none⟩=some (.int .i64 x2):=by rw [HOC2.out.cellAt _ (by omega)];exact e2
     have d3:wr.cell? ⟨gC,i * 4 + 3,none⟩=some (.int .i64 x3):=by rw [HOC2.out.cellAt _ (by omega)];exact e3
     have y0:wr.cell? ⟨g8,i * 4,none⟩=some (.int .i64 x0):=by rw [HOa.out.cellAt _ (by omega),HXa.out _ (by omega)];exact e0
     have y1:wr.cell? ⟨g8,i * 4 + 1,none⟩=some (.int .i64 x1):=by rw [HOa.out.cellAt _ (by omega),HXa.out _ (by omega)];exact e1
     have y2:wr.cell? ⟨g8,i * 4 + 2,none⟩=some (.int .i64 x2):=by rw [HOa.out.cellAt _ (by omega),HXa.out _ (by omega)];exact e2
     have y3:wr.cell? ⟨g8,i * 4 + 3,none⟩=some (.int .i64 x3):=by rw [HOa.out.cellAt _ (by omega),HXa.out _ (by omega)];exact e3
     have f0:=HOa.out.frozenAt (i * 4)
     have f1:=HOa.out.frozenAt (i * 4 + 1)
     have f2:=HOa.out.frozenAt (i * 4 + 2)
     have f3:=HOa.out.frozenAt (i * 4 + 3)
     have HLBr:=hid (obj_fr HLB.out HRa.out List.not_mem_nil)
     have m2:=obj_cell HLBr.out (i:=2) (v:=.slice (some ⟨gC,0,none⟩) c cC) rfl
     have hg8:=(owns_at HOa.out).1
     have HX4:=hid (show ∀ j,(i + 1) * 4 ≤ j→((((xs.set (i * 4) (.int .i64 0)).set (i * 4 + 1) (.int .i64 0)).set (i * 4 + 2) (.int .i64 0)).set (i * 4 + 3) (.int .i64 0))[j]?=(clCells Cs)[j]? from fun j hj=>by
      rw [List.getElem?_set_ne (by omega),List.getElem?_set_ne (by omega),List.getElem?_set_ne (by omega),List.getElem?_set_ne (by omega)];exact HXa.out j (by omega))
     clear e0 e1 e2 e3 hx
     go_wp2_with fail
     go_quiet (fail)
     go_wp2
     go_roundw
     case rel =>
      obtain ⟨p1,p2,p3⟩:=owns_put4 (owns_fr0 HOa.out (fr_drewN wr nq)) i (.int .i64 0) (.int .i64 0) (.int .i64 0) (.int .i64 0)
      refine ⟨i + 1,_,by go_num,by omega,hid ((HRa.out.trans (fr_drewN wr nq)).behind p2 (fun k hk=>by rw [List.mem_singleton.1 hk];omega)),hid p1,HX4,hid (p3 _ _ _ _ _ _ (by decide) (owns_fr0 HNa.out (fr_drewN wr nq))),hid (HLa.out.keep (fun e v n xs he h=>p3 _ _ _ _ _ _ (by rcases he with rfl | rfl <;> decide) (owns_fr0 h (fr_drewN wr nq))))⟩
     case measure=>simp [intOf];omega
    ·have hiI:¬ (i:Int) < (c:Int):=by omega
     clear HOa HXa
     go_wp2_with fail
     go_loopw [11] (fun a wr2=>∃ (i:Nat) (hI:List Value),a=.int .i64 i∧i ≤ K∧Hid (Fr [] w2 wr2)∧Hid (wr2.ownsRow w3.heap.size 51 4 (.slice (some ⟨gN,0,none⟩) K cN) K hI)∧Hid (∀ j,i * 4 ≤ j→hI[j]?=hs'[j]?)∧Hid (lnsFrom wr2 w3.heap.size hs' Ls i)) (fun a _=>K - (intOf a).toNat)
     case atStart=>exact ⟨0,hs',rfl,Nat.zero_le _,HRa,HNa,hid (fun _ _=>rfl),HLa⟩
     case round =>
      clear HRa HNa HLa hiI hic hil
      obtain ⟨i,hI,rfl,hic,HRb,HNb,HEb,HLb⟩:=hrel
      by_cases hil:i < K
      ·have hiI:(i:Int) < (K:Int):=by omega
       obtain ⟨l,hl⟩:∃ l,Ls[i]?=some l:=⟨_,List.getElem?_eq_getElem (by rw [← HK.out];exact hil)⟩
       obtain ⟨hlo,hlx⟩:=HLL.out l (List.mem_of_getElem? hl)
       obtain ⟨vO,vX,a1,a2,a3,a4,a5,a6⟩:=HLb.out i l (Nat.le_refl _) hl
       obtain ⟨mO,mX,b1,b2,b3,b4,b5,b6,_⟩:=HIN.out i l hl
       have HS3:=hid a3
       have HS4:=hid a4
       have HLc:=hid (HLb.out.later (Nat.le_succ i))
       have HVO:=hid a5
       have HVX:=hid a6
       have HMX:=hid b6
       have H12:=hid (fun q=>ints_drew _ vO mO (wr.drewN q) (owns_slN (owns_fr0 a5 (fr_drewN wr q)) rfl) (owns_slN (owns_fr0 b5 (HRb.out.trans (fr_drewN wr q))) rfl) (by rw [List.length_map];omega))
       obtain ⟨aO,cO,hvO⟩:=owns_slice a5
       obtain ⟨aX,cX,hvX⟩:=owns_slice a6
       obtain ⟨aP,cP,hmO⟩:=owns_slice b5
       obtain ⟨aY,cY,hmX⟩:=owns_slice b6
       subst hvO hvX hmO hmX
       have hIl:hI.length=K * 4:=HNb.out.1
       have HOLr:=hid (owns_fr0 HOL.out HRb.out)
       have hml:hm.length=K * 4:=HOL.out.1
       have HLBr:=hid (obj_fr HLB.out HRb.out List.not_mem_nil)
       have m3:=obj_cell HLBr.out (i:=3) (v:=.slice (some ⟨gM,0,none⟩) K cM) rfl
       have n0:wr.cell? ⟨gN,i * 4,none⟩=some (.int .i64 l.f):=by rw [HNb.out.cellAt _ (by omega),HEb.out _ (by omega)];exact a1
       have n1:wr.cell? ⟨gN,i * 4 + 1,none⟩=some (.int .i64 l.t):=by rw [HNb.out.cellAt _ (by omega),HEb.out _ (by omega)];exact a2
       have n2:wr.cell? ⟨gN,i * 4 + 2,none⟩=some (.slice aO l.o.length cO):=by rw [HNb.out.cellAt _ (by omega),HEb.out _ (by omega)];exact a3
       have n3:wr.cell? ⟨gN,i * 4 + 3,none⟩=some (.slice aX l.x.length cX):=by rw [HNb.out.cellAt _ (by omega),HEb.out _ (by omega)];exact a4
       have p0:wr.cell? ⟨gM,i * 4,none⟩=some (.int .i64 l.f):=by rw [HOLr.out.cellAt _ (by omega)];exact b1
       have p1:wr.cell? ⟨gM,i * 4 + 1,none⟩=some (.int .i64 l.t):=by rw [HOLr.out.cellAt _ (by omega)];exact b2
       have p2:wr.cell? ⟨gM,i * 4 + 2,none⟩=some (.slice aP l.o.length cP):=by rw [HOLr.out.cellAt _ (by omega)];exact b3
       have p3:wr.cell? ⟨gM,i * 4 + 3,none⟩=some (.slice aY l.x.length cY):=by rw [HOLr.out.cellAt _ (by omega)];exact b4
       have HP3:=hid b4
       have HLX:=hid (show (ints64 l.x).length=l.x.length by simp)
       generalize hlf:l.f=lf at *
       generalize hlt':l.t=lt at *
       generalize hlo':l.o.length=lo at *
       generalize hlx':l.x.length=lx at *
       clear a1 a2 a3 a4 a5 a6 b1 b2 b3 b4 b5 b6 hl hlf hlt' hlo' hlx' HLb
       go_wp2_with fail
       go_quiet (first | (go_at_call 12;exact Calls.quiet_of (H12.out _)))
       go_wp2_with fail
       go_quiet (fail)
       go_wp2_with fail
       go_loopw [13] (fun a wr2=>∃ (k:Nat) (xs:List Value),a=.int .i64 k∧k ≤ lx∧Hid (Fr [] w2 wr2)∧Hid (wr2.ownsRow w3.heap.size 51 4 (.slice (some ⟨gN,0,none⟩) K cN) K hI)∧Hid (lnsFrom wr2 w3.heap.size hs' Ls (i + 1))∧Hid (wr2.ownsRow w3.heap.size 3 1 (.slice aO lo cO) lo (intsN l.o))∧Hid (wr2.ownsRow w3.heap.size 2 1 (.slice aX lx cX) lx xs)∧Hid (∀ j,k ≤ j→xs[j]?=(ints64 l.x)[j]?)) (fun a _=>lx - (intOf a).toNat)
       case atStart=>exact ⟨0,_,rfl,Nat.zero_le _,hid (HRb.out.trans (frz _ _ _ rfl rfl rfl rfl)),hid (owns_fr0 HNb.out (frz _ _ _ rfl rfl rfl rfl)),hid (HLc.out.keep (fun _ _ _ _ _ h=>owns_fr0 h (frz _ _ _ rfl rfl rfl rfl))),hid (owns_fr0 HVO.out (frz _ _ _ rfl rfl rfl rfl)),hid (owns_fr0 HVX.out (frz _ _ _ rfl rfl rfl rfl)),hid (fun _ _=>rfl)⟩
       case round =>
        have HN2:=hid (show hI[i * 4 + 2]?=some (.slice aO lo cO) from (HEb.out _ (by omega)).trans HS3.out)
        have HN3:=hid (show hI[i * 4 + 3]?=some (.slice aX lx cX) from (HEb.out _ (by omega)).trans HS4.out)
        clear HRb HNb HLc HVO HVX H12 HOLr HLBr m3 n0 n1 n2 n3 p0 p1 p2 p3
        obtain ⟨k4,xs,rfl,hk4,HRd,HNd,HLd,HOd,HXd,HEd⟩:=hrel
        have n3:wr.cell? ⟨gN,i * 4 + 3,none⟩=some (.slice aX lx cX):=by rw [HNd.out.cellAt _ (by omega)];exact HN3.out
        by_cases hkl:k4 < lx
        ·have hkI4:(k4:Int) < (lx:Int):=by omega
         obtain ⟨gX,cX',hvX⟩:=owns_shape (by omega) HXd.out
         cases hvX
         obtain ⟨gY,cY',hmX⟩:=owns_shape (by omega) HMX.out
         cases hmX
         have HOLr:=hid (owns_fr0 HOL.out HRd.out)
         have HLBr:=hid (obj_fr HLB.out HRd.out List.not_mem_nil)
         have m3:=obj_cell HLBr.out (i:=3) (v:=.slice (some ⟨gM,0,none⟩) K cM) rfl
         have p3:wr.cell? ⟨gM,i * 4 + 3,none⟩=some (.slice (some ⟨gY,0,none⟩) lx cY):=by rw [HOLr.out.cellAt _ (by omega)];exact HP3.out
         have HY:=hid (owns_fr0 HMX.out HRd.out)
         obtain ⟨y,hy⟩:∃ y,(ints64 l.x)[k4]?=some (.int .i64 y):=⟨_,ints64_at (by have:=HLX.out;simp at this;omega)⟩
         have c1:wr.cell? ⟨gX,k4,none⟩=some (.int .i64 y):=by rw [HXd.out.cellAt _ (by omega),HEd.out _ (Nat.le_refl _)];exact hy
         have c2:wr.cell? ⟨gY,k4,none⟩=some (.int .i64 y):=by rw [HY.out.cellAt _ (by omega)];exact hy
         have f1:=HXd.out.frozenAt k4
         have hgX:=(owns_at HXd.out).1
         clear hy
         go_wp2_with fail
         go_quiet (fail)
         go_wp2
         go_roundw
         case rel =>
          have hq:=owns_fr0 HXd.out (fr_drewN wr nq)
          have hst:=hq.stored k4 (.int .i64 (-1))
          have hkk:=keep_kind hq (g:=gX) rfl hst.2
          exact ⟨k4 + 1,_,by go_num,by omega,hid ((HRd.out.trans (fr_drewN wr nq)).behind (Fr.of_grown hst.2) (fun k hk=>by rw [List.mem_singleton.1 hk];omega)),hid (hkk _ _ _ _ _ _ (by decide) (owns_fr0 HNd.out (fr_drewN wr nq))),hid ((HLd.out.keep (fun _ _ _ _ _ h=>owns_fr0 h (fr_drewN wr nq))).putX HSP.out HK.out.symm HS4.out rfl hq hst.2),hid (hkk _ _ _ _ _ _ (by decide) (owns_fr0 HOd.out (fr_drewN wr nq))),hid hst.1,hid (fun j hj=>by rw [List.getElem?_set_ne (by omega)];exact HEd.out j (by omega))⟩
         case measure=>simp [intOf];omega
        ·have hkI4:¬ (k4:Int) < (lx:Int):=by omega
         go_wp2_with fail
         go_loopw [14] (fun a wr2=>∃ (k:Nat) (xs:List Value),a=.int .i64 k∧k ≤ lo∧Hid (Fr [] w2 wr2)∧Hid (wr2.ownsRow w3.heap.size 51 4 (.slice (some ⟨gN,0,none⟩) K cN) K hI)∧Hid (lnsFrom wr2 w3.heap.size hs' Ls (i + 1))∧Hid (wr2.ownsRow w3.heap.size 3 1 (.slice aO lo cO) lo xs)) (fun a _=>lo - (intOf a).toNat)
         case atStart=>exact ⟨0,_,rfl,Nat.zero_le _,HRd,HNd,HLd,HOd⟩
         case round =>
          clear HRd HNd HLd HOd HXd HEd n3 hkI4 hkl hk4
          obtain ⟨k5,xs5,rfl,hk5,HRe,HNe,HLe,HOe⟩:=hrel
          have n2:wr.cell? ⟨gN,i * 4 + 2,none⟩=some (.slice aO lo cO):=by rw [HNe.out.cellAt _ (by omega)];exact HN2.out
          by_cases hkl:k5 < lo
          ·have hkI5:(k5:Int) < (lo:Int):=by omega
           obtain ⟨gO,cO',hvO⟩:=owns_shape (by omega) HOe.out
           cases hvO
           obtain ⟨y,c1⟩:∃ y,wr.cell? ⟨gO,k5,none⟩=some y:=by
                 rw [HOe.out.cellAt _ (by omega),List.getElem?_eq_getElem (by have:=HOe.out.1;omega)];exact ⟨_,rfl⟩
           have f1:=HOe.out.frozenAt k5
           have hgO:=(owns_at HOe.out).1
           have HST:=hid (HOe.out.stored k5 (.int .i64 (-1)))
           go_wp2
           go_roundw
           case rel =>
                 have hkk:=keep_kind HOe.out (g:=gO) rfl HST.out.2
                 exact ⟨k5 + 1,_,by go_num,by omega,hid (HRe.out.behind (Fr.of_grown HST.out.2) (fun k hk=>by rw [List.mem_singleton.1 hk];omega)),hid (hkk _ _ _ _ _ _ (by decide) HNe.out),hid (HLe.out.putO HSP.out HK.out.symm HS3.out rfl HOe.out HST.out.2),hid HST.out.1⟩
           case measure=>simp [intOf];omega
          ·have hkI5:¬ (k5:Int) < (lo:Int):=by omega
           have hcx:∀ j,j < K * 4→∃ u,wr.cell? ⟨gN,j,none⟩=some u:=fun j hj=>by
                 rw [HNe.out.cellAt j (by omega),List.getElem?_eq_getElem (by omega)];exact ⟨_,rfl⟩
           obtain ⟨y0,u0⟩:=hcx (i * 4) (by omega)
           obtain ⟨y1,u1⟩:=hcx (i * 4 + 1) (by omega)
           obtain ⟨y2,u2⟩:=hcx (i * 4 + 2) (by omega)
           obtain ⟨y3,u3⟩:=hcx (i * 4 + 3) (by omega)
           have g0:=HNe.out.frozenAt (i * 4)
           have g1:=HNe.out.frozenAt (i * 4 + 1)
           have g2:=HNe.out.frozenAt (i * 4 + 2)
           have g3:=HNe.out.frozenAt (i * 4 + 3)
           have hgN:=(owns_at HNe.out).1
           clear hcx
           go_wp2_with fail
           go_roundw
           case rel =>
                 obtain ⟨z1,z2,z3⟩:=owns_put4 HNe.out i (.int .i64 0) (.int .i64 0) (.slice none 0 0) (.slice none 0 0)
                 exact ⟨i + 1,_,by go_num,by omega,hid (HRe.out.behind z2 (fun k hk=>by rw [List.mem_singleton.1 hk];omega)),hid z1,hid (fun j hj=>by rw [List.getElem?_set_ne (by omega),List.getElem?_set_ne (by omega),List.getElem?_set_ne (by omega),List.getElem?_set_ne (by omega)];exact HEb.out j (by omega)),hid (HLe.out.keep (fun e v n xs he h=>z3 _ _ _ _ _ _ (by rcases he with rfl | rfl <;> decide) h))⟩
           case measure=>simp [intOf];omega
      ·have hiI:¬ (i:Int) < (K:Int):=by omega
       go_wp2_with fail
       go_roundw
       case rel=>exact ⟨k + 1,by go_num,by omega,HRb⟩
       case measure=>simp [intOf];omega
  ·have hkI:¬ (k:Int) < 2:=by omega
   go_wp2_with fail
   go_ret
   exact ⟨rfl,HF2.out.trans HR.out⟩
end Go.Proofs.YtnakejhohdbfdaaGreatDoor

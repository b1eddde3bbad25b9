import Derived.Test.YtnakejhohdbfdacGreatDoorKDcA
import Derived.Test.YtnakejhohdbfdacGreatDoorKLvLaw
namespace Go.Proofs.YtnakejhohdbfdacGreatDoor
open Go.RowKit Lev Lay Bnd Go.Shelf
set_option maxRecDepth 10000 in
theorem vis_nil (v0 v1 v2:Value)(w:World) :
 Calls Tryz.prog 147 #[.agg #[v0,v1,v2],.int .i64 0,.int .i64 0] w fun e w'=>∃go,e=.returned (.slice (some ⟨go,0,none⟩) 0 0)∧w'.ownsRow w.heap.size 3 1 (.slice (some ⟨go,0,none⟩) 0 0) 0 (intsN [])∧Fr [] w w':=by
 obtain⟨i3,hi3,hz30,hz31,hz32⟩:=info_parts info3;have hmk1:∀X:World,(Instr.makeSlice 32 (.int .i64 0) (.int .i64 0)).run Tryz.prog X=.ok (.slice (some ⟨X.heap.size,0,none⟩) 0 0) (X.alloc (.cells #[] 3)):=fun X=>by
  have:=run_make (P:=Tryz.prog) X 32 3 i3 _ Tryz.underlying32 hi3 hz30 .i64 .i64 0 0 (by omega) (Int.le_refl _) (by rw[hz32];omega) (by omega);rw[hz31]at this;exact this.trans (by simp[madeCells,Array.range])
 obtain⟨wx,hwx⟩:∃wx,wx=(w.alloc (.cells #[v0,v1,v2] 146)).alloc (.cells #[] 3):=⟨_,rfl⟩;have HF:=hid (show Fr [] w wx by rw[hwx];exact((Fr.refl [] w).alloc _).alloc _)
 have HO:=hid (show wx.heap[w.heap.size+1]?=some (.cells #[] 3 (0,0)) by
  have h:=obj_new (w.alloc (.cells #[v0,v1,v2] 146)) (.cells #[] 3)
  rw[←hwx]at h;simpa using h)
 go_enter Tryz.func147,Tryz.ntmps147;go_wp2_with fail;rw[←hwx];clear hwx;go_loopw [8,9,19] (fun a b c wr=>a=.int .i64 0∧b=.int .i64 9223372036854775807∧c=.int .i64 0∧Hid (wr.heap[w.heap.size+1]?=some (.cells #[] 3 (0,0)))∧Hid (Fr [] w wr)) (fun _ _ _ _=>0)
 case atStart=>exact⟨rfl,rfl,rfl,HO,HF⟩
 case round =>
  obtain⟨rfl,rfl,rfl,HO1,HF1⟩:=hrel;go_wp2_with fail;go_loopw [12] (fun a wr=>a=.int .i64 0∧Hid (wr.heap[w.heap.size+1]?=some (.cells #[] 3 (0,0)))∧Hid (Fr [] w wr)) (fun _ _=>0)
  case atStart=>exact⟨rfl,HO1,HF1⟩
  case round =>
   obtain⟨rfl,HO2,HF2⟩:=hrel;go_wp2_with fail;go_ret;exact⟨w.heap.size+1,rfl,⟨rfl,.inr ⟨_,0,#[],rfl,Nat.le_succ _,HO2.out,Nat.le_refl _,Nat.zero_le _,rfl,rfl⟩⟩,HF2.out⟩
set_option maxRecDepth 10000 in
theorem gaps_nil (v0 v1 v2:Value)(g c:Nat)(w:World) :
 Calls Tryz.prog 148 #[.agg #[v0,v1,v2],.slice (some ⟨g,0,none⟩) 0 c] w fun e w'=>∃gx cx,e=.returned (.slice (some ⟨gx,0,none⟩) 1 cx)∧w'.ownsRow w.heap.size 2 1 (.slice (some ⟨gx,0,none⟩) 1 cx) 1 (ints64 [0])∧Fr [] w w':=by
 obtain⟨wx,hwx⟩:∃wx,wx=(w.alloc (.cells #[v0,v1,v2] 146)).alloc (.cells #[.int .i64 0] 2):=⟨_,rfl⟩;have HF:=hid (show Fr [] w wx by rw[hwx];exact((Fr.refl [] w).alloc _).alloc _)
 have HO:=hid (show wx.heap[w.heap.size+1]?=some (.cells #[.int .i64 0] 2 (0,0)) by
  have h:=obj_new (w.alloc (.cells #[v0,v1,v2] 146)) (.cells #[.int .i64 0] 2)
  rw[←hwx]at h;simpa using h)
 go_enter Tryz.func148,Tryz.ntmps148;go_wp2_with fail;rw[←hwx];clear hwx;go_loopw [5,11] (fun a b wr=>a=.slice (some ⟨w.heap.size+1,0,none⟩) 1 1∧b=.int .i64 0∧Hid (wr.heap[w.heap.size+1]?=some (.cells #[.int .i64 0] 2 (0,0)))∧Hid (Fr [] w wr)) (fun _ _ _=>0)
 case atStart=>exact⟨rfl,rfl,HO,HF⟩
 case round =>
  obtain⟨rfl,rfl,HO1,HF1⟩:=hrel;go_wp2_with fail;go_ret;exact⟨w.heap.size+1,1,rfl,⟨rfl,.inr ⟨_,1,#[.int .i64 0],rfl,Nat.le_succ _,HO1.out,Nat.le_refl _,by unfold maxLen;omega,rfl,rfl⟩⟩,HF1.out⟩
end Go.Proofs.YtnakejhohdbfdacGreatDoor
namespace Go.Proofs.YtnakejhohdbfdacGreatDoor
open Go.RowKit Lev Lay Bnd
def ln0:Ln:=⟨0,0,[],[0]⟩
theorem at_nil (gB cB:Nat)(v1 v2:Value)(w:World)(hB:rowAt w gB 1 [0]) :
 Calls Tryz.prog 100 #[.agg #[.slice (some ⟨gB,0,none⟩) 1 cB,v1,v2],.int .i64 0] w fun e w'=>e=.returned (.int .i64 0)∧Fr [] w w' :=
 (at_any [0] 0 ⟨by simp,rfl,rfl⟩ 0 gB cB 1 v1 v2 w rfl (by omega) hB).mono (fun _ _ h=>h)
set_option maxRecDepth 10000 in
set_option maxHeartbeats 4000000 in
theorem lines_nil (gB cB ge ce:Nat)(w:World)(hce:2≤ce)(hB:rowAt w gB 1 [0])(hE:rowAt w ge 2 [0,0]) :
 Calls Tryz.prog 114 #[.agg #[.slice (some ⟨gB,0,none⟩) 1 cB,.slice none 0 0,.slice none 0 0],.slice (some ⟨ge,0,none⟩) 2 ce] w fun e w'=>∃vL hs,e=.returned vL∧w'.ownsRow w.heap.size 69 4 vL 1 hs∧lnsAt w' w.heap.size w'.heap.size hs [ln0]∧Fr [] w w':=by
 obtain⟨i51,hi51,hx0,hx1,hx2⟩:=info_parts info69;obtain⟨vS,hvS⟩:∃vS:Array Value,vS=#[.slice (some ⟨gB,0,none⟩) 1 cB,.slice none 0 0,.slice none 0 0]:=⟨_,rfl⟩;obtain⟨wb,hwb'⟩:∃wb,wb=w.alloc (.cells #[.slice (some ⟨gB,0,none⟩) 1 cB,.slice none 0 0,.slice none 0 0] 146):=⟨_,rfl⟩;have HFb:=hid (show Fr [] w wb by rw[hwb'];exact(Fr.refl [] w).alloc _);have HOB:=hid (show wb.heap[w.heap.size]?=some (.cells #[.slice (some ⟨gB,0,none⟩) 1 cB,.slice none 0 0,.slice none 0 0] 146 (0,0)) by rw[hwb'];exact obj_new w _);have hwbs:wb.heap.size=w.heap.size+1:=by rw[hwb'];simp
 have HE:=hid hE;have HA:=hid (fun(X:World) (hf:Fr [] w X)=>at_nil gB cB (.slice none 0 0) (.slice none 0 0) X (hB.fr hf List.not_mem_nil));have HVS:=hid (fun(X:World)=>vis_nil (.slice (some ⟨gB,0,none⟩) 1 cB) (.slice none 0 0) (.slice none 0 0) X);have HGP:=hid (fun(go:Nat) (X:World)=>gaps_nil (.slice (some ⟨gB,0,none⟩) 1 cB) (.slice none 0 0) (.slice none 0 0) go 0 X);clear hvS hE hB vS;have hce1:¬ce=1:=by omega
 have hce2:1<ce:=by omega
 go_enter Tryz.func114,Tryz.ntmps114;go_wp2_with fail;rw[←hwb'];go_loopw [5,13] (fun vL kk wr=>∃(i:Nat) (hs:List Value),kk=.int .i64 i∧i≤1∧Hid (wr.ownsRow (w.heap.size+1) 69 4 vL i hs)∧Hid (lnsAt wr (w.heap.size+1) wr.heap.size hs ([ln0].take i))∧Hid (Fr [] wb wr)) (fun _ kk _=>1 - (intOf kk).toNat)
 case atStart=>exact⟨0,[],rfl,Nat.zero_le _,hid ⟨rfl,.inl ⟨rfl,rfl⟩⟩,hid (fun j l hj=>by simp at hj),hid (Fr.refl _ _)⟩
 case round =>
  obtain⟨i,hs,rfl,hiK,HL,HI,HF⟩:=hrel;have HFw:=hid (HFb.out.trans HF.out);by_cases hil:i<1
  ·obtain rfl:i=0:=by omega
   have e0:wr.cell? ⟨ge,0,none⟩=some (.int .i64 0):=HE.out.fr HFw.out List.not_mem_nil 0 (by omega);have e1:wr.cell? ⟨ge,1,none⟩=some (.int .i64 0):=HE.out.fr HFw.out List.not_mem_nil 1 (by omega);obtain⟨aL,cL,hvL⟩:=owns_slice HL.out;subst hvL;have HOBr:=hid (obj_fr HOB.out HF.out List.not_mem_nil);have s0:wr.cell? ⟨w.heap.size,0,none⟩=some (.slice (some ⟨gB,0,none⟩) 1 cB):=obj_cell HOBr.out (i:=0) rfl;have s1:wr.cell? ⟨w.heap.size,1,none⟩=some (.slice none 0 0):=obj_cell HOBr.out (i:=1) rfl;have s2:wr.cell? ⟨w.heap.size,2,none⟩=some (.slice none 0 0):=obj_cell HOBr.out (i:=2) rfl;have HS0:=hid (And.intro s0 (And.intro s1 s2));have hbl:=World.block_lt_of_cell? _ _ s0;dsimp only at hbl;go_wp2_with fail;go_region_held (fun wz=>wz.cell? ⟨w.heap.size,0,none⟩=some (.slice (some ⟨gB,0,none⟩) 1 cB)∧wz.cell? ⟨w.heap.size,1,none⟩=some (.slice none 0 0)∧wz.cell? ⟨w.heap.size,2,none⟩=some (.slice none 0 0))
    (first | exact HS1 | exact HS0.out | go_keep)
    (first
      | (go_at_call 100;refine(HA.out _ ?fa).mono ?_;(case fa=>first | exact HF1.out.trans (frz _ _ _ rfl rfl rfl rfl) | exact HFw.out.trans (frz _ _ _ rfl rfl rfl rfl));rintro e w1 ⟨rfl,hf1⟩;have HF1:=hid (show Fr [] w w1 from by first | exact HF1.out.trans ⟨hf1.os,hf1.tape,hf1.output,hf1.size,hf1.block⟩ | exact HFw.out.trans ⟨hf1.os,hf1.tape,hf1.output,hf1.size,hf1.block⟩);have HG1:=hid (show Fr [] wr w1 from by first | exact HG1.out.trans ⟨hf1.os,hf1.tape,hf1.output,hf1.size,hf1.block⟩ | exact⟨hf1.os,hf1.tape,hf1.output,hf1.size,hf1.block⟩);have HS1:=And.intro (HG1.out.cell s0 List.not_mem_nil) (And.intro (HG1.out.cell s1 List.not_mem_nil) (HG1.out.cell s2 List.not_mem_nil));clear hf1)
      | (go_at_call 147;refine(HVS.out _).mono ?_;rintro e w2 ⟨go,rfl,own2,hf2⟩;have HO2:=hid (owns_low (base':=w.heap.size+1) own2 (Nat.le_trans hbl HG1.out.size));have HG2:=hid (show Fr [] wr w2 from HG1.out.trans ⟨hf2.os,hf2.tape,hf2.output,hf2.size,hf2.block⟩);have hsz2:=HG1.out.size;have HS1:=And.intro (HG2.out.cell s0 List.not_mem_nil) (And.intro (HG2.out.cell s1 List.not_mem_nil) (HG2.out.cell s2 List.not_mem_nil));clear own2 hf2))
   all_goals (
    obtain⟨t0,t1,t2⟩:=HS1
    have hbl2:=HG2.out.size
    go_wp2_with (first
     | (go_at_call 148;refine(HGP.out _ _).mono ?_;rintro e w3 ⟨gx,cx,rfl,own3,hf3⟩;have HX3:=hid (owns_low (base':=w.heap.size+1) own3 (Nat.le_trans hbl hbl2));have HG3:=hid (show Fr [] w2 w3 from⟨hf3.os,hf3.tape,hf3.output,hf3.size,hf3.block⟩);have hbl3:=HG3.out.size;have HL3:=hid (owns_fr0 HL.out (HG2.out.trans HG3.out));clear own3 hf3)
     | (at_builtin;refine wpList_append_own _ rfl _ _ 143 rfl (w.heap.size+1) 69 i51 _ 4 64 Tryz.underlying143 hi51 hx0 hx1 hx2 rfl (by decide) _ 0 hs rfl ?own _ 1 1 [.int .i64 0,.int .i64 0,.slice (some ⟨go,0,none⟩) 0 0,.slice (some ⟨gx,0,none⟩) 1 cx] rfl rfl (news_at _ _ _ _ (by simp)) (line_one _ _ _ _ _ _ _ _) (by unfold maxLen;omega) (by omega) ?szz ?_))
    case own=>exact HL3.out.alloc _
    case szz=>simp;omega
    intro v' w' hown hgrow hnil
    obtain⟨g',c',hv'⟩:=owns_shape (by omega) hown
    subst hv'
    have HHO:=hid hown
    have HHG:=hid hgrow
    have HF3:=hid (show Fr [] w2 (w3.alloc (.cells #[.int .i64 0,.int .i64 0,.slice (some ⟨go,0,none⟩) 0 0,.slice (some ⟨gx,0,none⟩) 1 cx] 69))from HG3.out.alloc _)
    have HKD:=hid (fun(e:Nat) (v:Value) (m:Nat) (xs:List Value) (he:e=3∨e=2) (hh:(w3.alloc (.cells #[.int .i64 0,.int .i64 0,.slice (some ⟨go,0,none⟩) 0 0,.slice (some ⟨gx,0,none⟩) 1 cx] 69)).ownsRow (w.heap.size+1) e 1 v m xs)=>show w'.ownsRow (w.heap.size+1) e 1 v m xs from owns_kind hh HHG.out (fun g hg=>by
     obtain⟨cs,t',f',h5,h6⟩:=owns_type (HL3.out.alloc (.cells #[.int .i64 0,.int .i64 0,.slice (some ⟨go,0,none⟩) 0 0,.slice (some ⟨gx,0,none⟩) 1 cx] 69)) hg
     exact⟨cs,t',f',h5,by rw[h6];rcases he with rfl | rfl <;> decide⟩))
    have hszw:w3.heap.size≤w'.heap.size:=by have h5:=hgrow.size;simp at h5;omega
    have HI4:=hid (show lnsAt w' (w.heap.size+1) w'.heap.size (hs++[.int .i64 0,.int .i64 0,.slice (some ⟨go,0,none⟩) 0 0,.slice (some ⟨gx,0,none⟩) 1 cx]) [ln0] by
     refine lnsAt.snoc (Ls:=[]) (l:=ln0) (n:=0) HI.out rfl HL.out.1 (by have:=HG2.out.size;have:=HG3.out.size;omega) (fun e v m xs he _ hh=>HKD.out e v m xs he (owns_fr0 hh (HG2.out.trans HF3.out))) ?_ ?_ ?_ ?_
     ·exact HKD.out 3 _ _ _ (.inl rfl) (owns_fr0 HO2.out HF3.out)
     ·exact HKD.out 2 _ _ _ (.inr rfl) (HX3.out.alloc _)
     ·intro g hg;cases hg;have:=(owns_at HO2.out).2;show go<_;omega
     ·intro g hg;cases hg;have:=(owns_at HX3.out).2;show gx<_;omega)
    have HF4:=hid (show Fr [] wb w' from(HF.out.trans (HG2.out.trans HF3.out)).grown HHG.out (fun g hg=>by
     have:=(HL3.out.lt g hg).1;omega))
    clear hown hgrow hnil
    go_wp2
    go_roundw
    case rel=>exact⟨1,_,rfl,by omega,HHO,HI4,HF4⟩
    case measure=>simp[intOf])
  ·obtain rfl:i=1:=by omega
   have HIL:=hid (show lnsAt wr w.heap.size wr.heap.size hs [ln0]from fun j l hj=>by
    obtain⟨vO,vX,a1,a2,a3,a4,a5,a6,a7⟩:=HI.out j l hj
    exact⟨vO,vX,a1,a2,a3,a4,owns_low a5 (by omega),owns_low a6 (by omega),a7⟩)
   go_wp2;go_ret;exact⟨_,hs,rfl,owns_low HL.out (by omega),HIL.out,HFw.out⟩
end Go.Proofs.YtnakejhohdbfdacGreatDoor
namespace Go.Proofs.YtnakejhohdbfdacGreatDoor
open Go.RowKit Lev Lay Bnd Go.Shelf
attribute [local go_sem] Oper.semAt_some
theorem bnd_nil {s:ByteArray}(hs:s.size=0):bnd s 0=[0]:=by
 rw[bnd,if_neg (by omega)];rfl
set_option maxRecDepth 10000 in
set_option maxHeartbeats 2000000 in
theorem signs_nil (s:ByteArray)(b:Int)(aW aB:Option Addr)(nW cW nB cB gL cL:Nat)(w:World)(hs:s.size=0)(ht:Cls.TabAt w 0 Tabs.kindTab) :
 Calls Tryz.prog 113 #[.agg #[.string s,.int .i64 b,.slice aW nW cW,.slice aB nB cB],.slice none 0 0,.slice (some ⟨gL,0,none⟩) 0 cL] w fun e w'=>∃gB cB,e=.returned (.agg #[.slice (some ⟨gB,0,none⟩) 1 cB,.slice none 0 0,.slice none 0 0])∧rowAt w' gB 1 [0]∧w.heap.size≤gB∧Fr [] w w':=by
 obtain⟨w2,hw2⟩:∃w2,w2=(w.alloc (.cells #[.string s,.int .i64 b,.slice aW nW cW,.slice aB nB cB] 64)).alloc (.cells #[.slice none 0 0,.slice none 0 0,.slice none 0 0] 146):=⟨_,rfl⟩;have HF2:=hid (show Fr [] w w2 by rw[hw2];exact((Fr.refl [] w).alloc _).alloc _);have HO1:=hid (show w2.heap[w.heap.size]?=some (.cells #[.string s,.int .i64 b,.slice aW nW cW,.slice aB nB cB] 64 (0,0)) by rw[hw2];exact obj_fr (obj_new w _) ((Fr.refl [] _).alloc _) List.not_mem_nil);have hw2s:w2.heap.size=w.heap.size+2:=by rw[hw2];simp
 have HO2:=hid (show w2.heap[w.heap.size+1]?=some (.cells #[.slice none 0 0,.slice none 0 0,.slice none 0 0] 146 (0,0)) by
  have h:=obj_new (w.alloc (.cells #[.string s,.int .i64 b,.slice aW nW cW,.slice aB nB cB] 64)) (.cells #[.slice none 0 0,.slice none 0 0,.slice none 0 0] 146)
  rw[World.size_alloc]at h;rw[hw2];exact h)
 have H205:=hid (Cls.fn25_any s w2 (by omega) (tab_fr ht HF2.out));have HE:=hid (show Dec.Ends s 0 from⟨hs.symm,fun j hj=>absurd hj (Nat.not_lt_zero _)⟩);have HBN:=hid (bnd_nil hs);have k0:=obj_cell HO1.out (i:=0) (v:=.string s) rfl;clear ht hs;go_enter Tryz.func113,Tryz.ntmps113;go_wp2_with fail;rw[←hw2];refine H205.out.mono ?_;rintro e w3 ⟨n',v,hn',rfl,own,hb3⟩;obtain rfl:=Dec.ends_unique HE.out hn';rw[HBN.out]at own;have HF3:=hid (HF2.out.trans (Fr.of_below (S:=[]) hb3));have HO23:=hid (obj_fr HO2.out (Fr.of_below (S:=[]) hb3) List.not_mem_nil);have own:w3.ownsRow w2.heap.size 3 1 v 1 (ints64 [0]):=own;obtain⟨gB,cB,hv⟩:=owns_shape (by omega) own;subst hv;have HRB:=hid (show rowAt w3 gB 1 [0]from fun j hj=>by rw[own.cellAt j (by omega),ints64_at hj]);have hgB0:=(owns_at own).1;have hgB:=(owns_at own).2;clear own hb3 hn' H205 k0 hw2;have hw3s:w.heap.size+2≤w3.heap.size:=by have:=obj_lt HO23.out;omega
 go_wp2_with fail;go_loopw [16] (fun ii wr=>ii=.int .i64 0∧Hid (wr.heap[w3.heap.size]?=some (.cells #[.slice (some ⟨gB,0,none⟩) 1 cB,.slice none 0 0,.slice none 0 0] 146 (0,0)))∧Hid (Fr [] w3 wr)) (fun _ _=>0)
 case atStart=>exact⟨rfl,hid (obj_new w3 _),hid ((Fr.refl [] w3).alloc _)⟩
 case round =>
  obtain⟨rfl,HOC,HF⟩:=hrel;have HOR:=hid (obj_fr HO23.out HF.out List.not_mem_nil);have c0:=obj_cell HOC.out (i:=0) (v:=.slice (some ⟨gB,0,none⟩) 1 cB) rfl;have c1:=obj_cell HOC.out (i:=1) (v:=.slice none 0 0) rfl;have c2:=obj_cell HOC.out (i:=2) (v:=.slice none 0 0) rfl;have r0:=obj_cell HOR.out (i:=0) (v:=.slice none 0 0) rfl;have r1:=obj_cell HOR.out (i:=1) (v:=.slice none 0 0) rfl;have r2:=obj_cell HOR.out (i:=2) (v:=.slice none 0 0) rfl;have rf0:=obj_froz HOR.out 0;have rf1:=obj_froz HOR.out 1;have rf2:=obj_froz HOR.out 2;have hne:w3.heap.size≠w.heap.size+1:=by omega
  have HEND:=hid (show(((wr.setCell ⟨w.heap.size+1,0,none⟩ (.slice (some ⟨gB,0,none⟩) 1 cB)).setCell ⟨w.heap.size+1,1,none⟩ (.slice none 0 0)).setCell ⟨w.heap.size+1,2,none⟩ (.slice none 0 0)).heap[w.heap.size+1]?=some (.cells #[.slice (some ⟨gB,0,none⟩) 1 cB,.slice none 0 0,.slice none 0 0] 146 (0,0))from obj_set (obj_set (obj_set HOR.out 0 _) 1 _) 2 _);have HFE:=hid (show Fr [w.heap.size+1] wr (((wr.setCell ⟨w.heap.size+1,0,none⟩ (.slice (some ⟨gB,0,none⟩) 1 cB)).setCell ⟨w.heap.size+1,1,none⟩ (.slice none 0 0)).setCell ⟨w.heap.size+1,2,none⟩ (.slice none 0 0))from((((Fr.refl [w.heap.size+1] wr).set (List.mem_singleton.2 rfl) _).set (List.mem_singleton.2 rfl) _).set (List.mem_singleton.2 rfl) _));go_wp2_with fail;refine bodyPost_ret (results_cell_row (t:=146) (fr:=(0,0)) rfl _ _ (w.heap.size+1) _ _ rfl HEND.out Tryz.underlying146 rfl (by kernel_rfl)) rfl ?_;refine⟨gB,cB,rfl,(HRB.out.fr HF.out List.not_mem_nil).fr HFE.out (fun h=>by have:=List.mem_singleton.1 h;omega),by omega,((((HF3.out.trans HF.out).mono (fun _ h _=>absurd h List.not_mem_nil):Fr [w.heap.size+1] w wr).trans HFE.out).mono (fun x hx hlt=>by have:=List.mem_singleton.1 hx;omega))⟩
theorem fn198_nil (w:World):Calls Tryz.prog 145 #[.slice none 0 0] w fun e w' =>
 e=.returned (.func (.func 197) #[] #[.pointer (some ⟨w.heap.size,0,none⟩)])∧w'=w.alloc (.cells #[.slice none 0 0] 40):=by
 go_enter Tryz.func145,Tryz.ntmps145;go_wp2;go_ret;exact⟨by simp,rfl⟩
set_option maxRecDepth 100000 in
theorem back_nil (bx:Nat)(m l:Nat)(V':Unit→World→Prop)(W:World)(hb:W.cell? ⟨bx,0,none⟩=some (.slice none 0 0))(h0:V' () W) :
 CallsIn Fence.wide m Tryz.prog 197 (#[.func (.yield l) #[] #[]]++#[.pointer (some ⟨bx,0,none⟩)]) W fun e B=>(∃v,e=.returned v)∧V' () B:=by
 have H0:=hid h0;clear h0;refine callsIn_of_wp Tryz.func197 rfl trivial ?_ rfl;simp only[Tryz.ntmps197,List.size_toArray,List.length_cons,List.length_nil,Nat.reduceAdd,Nat.reduceSub,Array.replicate_succ,Array.replicate_zero,List.push_toArray,List.append_toArray,List.nil_append,List.cons_append];gi_wp2;clear hb;gi_loopw [3] (fun a wr=>a=.int .i64 (-1)∧Hid (V' () wr)) (fun _ _=>0)
 case atStart=>exact⟨rfl,H0⟩
 case round =>
  obtain⟨rfl,HV⟩:=hrel;gi_wp2;go_end0;exact⟨⟨_,rfl⟩,HV.out⟩
set_option maxRecDepth 100000 in
set_option maxHeartbeats 4000000 in
theorem ends_nil (gL cL ge m ce:Nat)(bs:Int)(w:World) :
 Calls Tryz.prog 112 #[.slice none 0 0,.slice (some ⟨gL,0,none⟩) 0 cL,.int .i64 bs,.slice (some ⟨ge,0,none⟩) m ce] w fun e w'=>e=.returned (.tuple #[])∧Fr [] w w':=by
 refine(callsIn_wide (n:=3)).1 ?_;refine callsIn_of_wp_marks Tryz.func112 rfl trivial ?_ rfl;simp only[Tryz.ntmps112,List.size_toArray,List.length_cons,List.length_nil,Nat.reduceAdd,Nat.reduceSub,Array.replicate_succ,Array.replicate_zero,List.push_toArray,List.append_toArray,List.nil_append,List.cons_append];gi_wp2_with (refine⟨trivial,?_⟩;gi_at_call 145;refine(callsIn_wide.2 (fn198_nil _)).mono ?_;rintro e w' ⟨rfl,rfl⟩);obtain⟨W0,hW0⟩:∃W0,((((w.alloc (.cells #[.slice (some ⟨gL,0,none⟩) 0 cL] 32)).alloc (.cells #[.int .i64 bs] 3)).alloc (.cells #[.slice (some ⟨ge,0,none⟩) m ce] 32)).alloc (.cells #[.bool false] 4)).alloc (.cells #[.slice none 0 0] 40)=W0:=⟨_,rfl⟩;have hsz:W0.heap.size=w.heap.size+5:=by rw[←hW0];simp
 have hV0:VN w W0.heap.size W0:=by
  have k4:W0.heap[w.heap.size+4]?=some (.cells #[.slice none 0 0] 40 (0,0)):=by
   have h:=obj_new ((((w.alloc (.cells #[.slice (some ⟨gL,0,none⟩) 0 cL] 32)).alloc (.cells #[.int .i64 bs] 3)).alloc (.cells #[.slice (some ⟨ge,0,none⟩) m ce] 32)).alloc (.cells #[.bool false] 4)) (.cells #[.slice none 0 0] 40);rw[hW0]at h;simpa using h
  refine⟨?_,Nat.le_refl _,obj_cell k4 (i:=0) rfl⟩;rw[←hW0];exact(((((Fr.refl [] w).alloc _).alloc _).alloc _).alloc _).alloc _
 rw[hW0];refine wpIn_range_al rfl (by omega) (gf:=197) (lb:=#[.pointer (some ⟨w.heap.size+4,0,none⟩)]) rfl trivial (enters_of Tryz.func197 (by kernel_rfl) rfl)
  (encs:=fun x:Nat=>#[.int .i64 x,.agg #[.int .i32 0,.int .i64 0,.int .i64 0]]) (fun _=>rfl)
  (fun(_:Unit) A=>VN w W0.heap.size A) (fun _ _ h=>h.n) (fun _ _ _ h hb=>h.below (by omega) hb)
  (fun _ _=>False) (fun _ _=>()) () ()
  (fun l V' W h1 h2 h3 h4=>back_nil _ _ l V' W (h1 () W h4).b h4)
  (fun _=>.cells #[.int .i32 0,.int .i64 0,.int .i64 0] 48)
  (fun x b=>{ tmps:=#[.slice none 0 0,.slice (some ⟨gL,0,none⟩) 0 cL,.int .i64 bs,.slice (some ⟨ge,0,none⟩) m ce,undef,.pointer (some ⟨w.heap.size,0,none⟩),.pointer (some ⟨w.heap.size+1,0,none⟩),.pointer (some ⟨w.heap.size+2,0,none⟩),.pointer (some ⟨w.heap.size+3,0,none⟩),.int .i64 x,.pointer (some ⟨b,0,none⟩),undef,undef,undef,.slice none 0 0,.func (.func 197) #[] #[.pointer (some ⟨w.heap.size+4,0,none⟩)],.int .i64 x,.agg #[.int .i32 0,.int .i64 0,.int .i64 0],undef,undef,undef,undef,undef,undef,undef,undef,undef,undef,undef,undef,undef,undef,undef,undef,undef,undef,undef,undef,undef,undef,undef,undef,undef,undef,undef,undef,undef,undef,undef],defers:=[] })
  hV0 ?assign ?body ?done
 case assign =>
  intro l x W K hK;gi_wp2;exact hK
 case body =>
  rintro l j x A b hV hF;exact hF.elim
 case done =>
  rintro D A hV hD hKd;have HV:=hid hV;clear hV hV0 hW0;gi_wp2;refine⟨by simp,.inl ⟨_,_,rfl,run_takeDeferred hKd,?_⟩⟩;refine⟨_,results_none rfl _ _ _,rfl,?_⟩;exact(HV.out.below (by omega) (below_put hD _)).f
end Go.Proofs.YtnakejhohdbfdacGreatDoor
namespace Go.Proofs.YtnakejhohdbfdacGreatDoor
open Go.RowKit Lev Lay Bnd
theorem br_nil {s:ByteArray}{Br:List Int}(hs:s.size=0)(h:Lay.brTo (bnd s 0) s.size Br Br.length=true):Br=[]:=by
 cases Br with
 | nil=>rfl
 | cons x l =>
   have:=brTo_at h 0 (by simp);omega
theorem edL_nil {s:ByteArray}(hs:s.size=0):edL s []=[0,0]:=by simp[edL,hs]
set_option maxRecDepth 10000 in
set_option maxHeartbeats 4000000 in
theorem layP_nil (s:ByteArray)(b:Int)(vW vB:Value)(W Br:List Int)(w:World)(hs:s.size=0)(hb:b=0∨b=1∨b=2)(hF:Floor w)(hW:slAt w vW W)(hB:slAd w vB Br)(hck:chk s 0 (clsOf s 0) b W Br=0) :
 Calls Tryz.prog 66 #[.agg #[.string s,.int .i64 b,vW,vB]] w fun e w'=>∃P v0 v1 v2 vL hs,e=.returned (.pointer (some ⟨P,0,none⟩))∧LP w' w.heap.size P [0] [] [] (1 - 2 * baseOf [] b) [ln0] v0 v1 v2 vL hs∧Fr [] w w':=by
 have hend:Dec.Ends s 0:=⟨hs.symm,fun j hj=>absurd hj (Nat.not_lt_zero _)⟩;obtain⟨hWl,hw,hbr⟩:=chk_zero hend (by omega) hb hck;have hbr0:=br_nil hs hbr;subst hbr0;have hW0:=hW;obtain⟨aW,cW,rfl,hW2⟩:=hW;obtain⟨aB,cB,rfl,_⟩:=id hB;rw[hWl]at hW0 ⊢;obtain⟨bs,hbs⟩:∃bs,bs=baseOf [] b:=⟨_,rfl⟩;have HB01:=hid (show bs=0∨bs=1 by rw[hbs];exact base_01 hb);obtain⟨wb,hwb⟩:∃wb,wb=w.alloc (.cells #[.string s,.int .i64 b,.slice aW 0 cW,.slice aB 0 cB] 64):=⟨_,rfl⟩;have HFb:=hid (show Fr [] w wb by rw[hwb];exact(Fr.refl [] w).alloc _);have HOB:=hid (show wb.heap[w.heap.size]?=some (.cells #[.string s,.int .i64 b,.slice aW 0 cW,.slice aB 0 cB] 64 (0,0)) by rw[hwb];exact obj_new w _);have HFL:=hid (fun(X:World) (hf:Fr [] w X)=>hF.fr hf);have H163:=hid (fun X:World=>Cls.fn21_any s X (by omega));have H38:=hid (fun(X:World)=>of_nil s b X hs hb);have HBR:=hid hB;have HE:=hid hend;have HSZ:=hid hs;rw[←hbs]at H38;have hs4:s.size≤400:=by omega
 clear hW0 hW2 hend hck hbr hw hWl hB hF hb hs;rw[←hbs];clear hbs;dsimp only[List.length_nil]at HBR ⊢;go_enter Tryz.func66,Tryz.ntmps66;go_wp2_with fail;rw[←hwb];have hwbs:wb.heap.size=w.heap.size+1:=by rw[hwb];simp
 clear hwb;have HF1:=HFb;have HO1:=HOB;refine(H163.out wb).mono ?_;rintro e w2 ⟨n',v,hn',rfl,own,hb2,hz⟩;obtain rfl:=Dec.ends_unique HE.out hn';obtain rfl:=hz rfl;have HF2:=hid (HF1.out.trans (Fr.of_below (S:=[]) hb2));have HO2:=hid (obj_fr HO1.out (Fr.of_below (S:=[]) hb2) List.not_mem_nil);have k0:=obj_cell HO2.out (i:=0) (v:=.string s) rfl;have k3:=obj_cell HO2.out (i:=3) (v:=.slice aB 0 cB) rfl;have hl2:w.heap.size<w2.heap.size:=obj_lt HO2.out;have H164:=hid (concat_edges s [] aB cB w2 (HBR.out.fr HF2.out) (by simp));dsimp only[List.length_nil]at H164;clear own hb2 hn' H163 hz;go_wp2_with fail;refine H164.out.mono ?_;rintro e w3 ⟨ge,ce,rfl,hce,hge,hE3,hf3⟩;rw[edL_nil HSZ.out]at hE3;have HF3:=hid (HF2.out.trans hf3);have HO3:=hid (obj_fr HO2.out hf3 List.not_mem_nil);have HE3:=hid hE3;have H38b:=hid (H38.out w3);have k0:=obj_cell HO3.out (i:=0) (v:=.string s) rfl;have k1:=obj_cell HO3.out (i:=1) (v:=.int .i64 b) rfl;clear hE3 hf3 H164 k3 H38;go_wp2_with fail;refine H38b.out.mono ?_;rintro e w4 ⟨gL,rfl,hf4⟩;have HF4:=hid (HF3.out.trans hf4);have HO4:=hid (obj_fr HO3.out hf4 List.not_mem_nil);have HE4:=hid (HE3.out.fr hf4 List.not_mem_nil);have H165:=hid (ends_nil gL 0 ge (0+2) ce bs w4);clear k0 k1 H38b hf4;go_wp2_with fail;refine H165.out.mono ?_;rintro e w5 ⟨rfl,hf5⟩;have HF5:=hid (HF4.out.trans hf5);have HO5:=hid (obj_fr HO4.out hf5 List.not_mem_nil);have HE5:=hid (HE4.out.fr hf5 List.not_mem_nil);have H166:=hid (signs_nil s b aW aB 0 cW 0 cB gL 0 w5 HSZ.out (HFL.out w5 HF5.out).t9);have k0:=obj_cell HO5.out (i:=0) (v:=.string s) rfl;have k1:=obj_cell HO5.out (i:=1) (v:=.int .i64 b) rfl;have k2:=obj_cell HO5.out (i:=2) (v:=.slice aW 0 cW) rfl;have k3:=obj_cell HO5.out (i:=3) (v:=.slice aB 0 cB) rfl;clear hf5 H165;go_wp2_with fail;refine H166.out.mono ?_;rintro e w6 ⟨gB,cB',rfl,hrB,hgB,hf6⟩;have HF6:=hid (HF5.out.trans hf6);have HE6:=hid (HE5.out.fr hf6 List.not_mem_nil);have HRB:=hid hrB;clear hrB hf6 H166 k0 k1 k2 k3;obtain⟨w7,hw7⟩:∃w7,w7=w6.alloc (.cells #[.slice (some ⟨gB,0,none⟩) 1 cB',.slice none 0 0,.slice none 0 0] 146):=⟨_,rfl⟩;have HF67:=hid (show Fr [] w6 w7 by rw[hw7];exact(Fr.refl [] w6).alloc _);have HO7:=hid (show w7.heap[w6.heap.size]?=some (.cells #[.slice (some ⟨gB,0,none⟩) 1 cB',.slice none 0 0,.slice none 0 0] 146 (0,0)) by rw[hw7];exact obj_new w6 _);have H167:=hid (fun(X:World) (hf:Fr [] w7 X)=>lines_nil gB cB' ge ce X hce ((HRB.out.fr HF67.out List.not_mem_nil).fr hf List.not_mem_nil) ((HE6.out.fr HF67.out List.not_mem_nil).fr hf List.not_mem_nil));have q0:=obj_cell HO7.out (i:=0) (v:=.slice (some ⟨gB,0,none⟩) 1 cB') rfl;have q1:=obj_cell HO7.out (i:=1) (v:=.slice none 0 0) rfl;have q2:=obj_cell HO7.out (i:=2) (v:=.slice none 0 0) rfl;have hbI:(0:Int)≤bs∧bs≤1:=by have:=HB01.out;omega
 obtain⟨hb0,hb1⟩:=hbI;have hw1:IntKind.i64.wrap (2 * bs)=2 * bs:=by rw[IntKind.wrap_i64];omega
 have hw2:IntKind.i64.wrap (1 - 2 * bs)=1 - 2 * bs:=by rw[IntKind.wrap_i64];omega
 go_wp2_with fail;rw[←hw7];clear hw7;go_region_with (first | (go_at_call 114;refine(H167.out _ ?_).mono ?_;exact frz _ _ _ rfl rfl rfl rfl;rintro e w8 ⟨vL,hs8,rfl,own8,hl8,hf8⟩;obtain⟨aL,cL,rfl⟩:=owns_slice own8;have hf8':Fr [] w7 w8:=⟨hf8.os,hf8.tape,hf8.output,hf8.size,hf8.block⟩;have HF8:=hid hf8';have HO8:=hid own8;have HL8:=hid hl8;have r0:=hf8'.cell q0 List.not_mem_nil;have r1:=hf8'.cell q1 List.not_mem_nil;have r2:=hf8'.cell q2 List.not_mem_nil;clear hf8 hf8' own8 hl8))
 all_goals (
  have HF9:=hid (show Fr [] w7 (w8.alloc (.cells #[.slice (some ⟨gB,0,none⟩) 1 cB',.slice none 0 0,.slice none 0 0,.slice aL 1 cL,.int .i64 (1 - 2 * bs)] 148))from HF8.out.alloc _)
  have HFE:=hid (HF6.out.trans (HF67.out.trans HF9.out))
  have HLP:=hid (show LP (w8.alloc (.cells #[.slice (some ⟨gB,0,none⟩) 1 cB',.slice none 0 0,.slice none 0 0,.slice aL 1 cL,.int .i64 (1 - 2 * bs)] 148)) w.heap.size w8.heap.size [0] [] [] (1 - 2 * bs) [ln0] _ _ _ _ hs8 from by
   have z1:=HF5.out.size
   have z4:=HF6.out.size
   have z2:=HF67.out.size
   have z3:=HF8.out.size
   have hz:w.heap.size≤w7.heap.size:=by omega
   refine⟨obj_new w8 _,by omega,sl0_of rfl (by omega) ((HRB.out.fr HF67.out List.not_mem_nil).fr HF9.out List.not_mem_nil),⟨none,0,rfl,.inl rfl⟩,⟨none,0,rfl,.inl rfl⟩,owns_low (HO8.out.alloc _) hz,w8.heap.size,by simp,?_⟩
   intro j l hj
   obtain⟨vO,vX,a1,a2,a3,a4,a5,a6,a7,a8⟩:=HL8.out j l hj
   exact⟨vO,vX,a1,a2,a3,a4,owns_low (a5.alloc _) hz,owns_low (a6.alloc _) hz,a7,a8⟩)
  go_wp2
  go_ret
  exact⟨_,_,_,_,_,_,rfl,HLP.out,HFE.out⟩)
end Go.Proofs.YtnakejhohdbfdacGreatDoor
namespace Go.Proofs.YtnakejhohdbfdacGreatDoor
open Go.RowKit Lev Lay Bnd
theorem bix_in {s:ByteArray}{n k:Nat}(hk:k<cn s n):nix (bix s n) k<n:=by
 have:=nix_lt (bix_sorted s n) hk (by have:=(bix_len s n).2.1;unfold cn;omega);rw[bix_last]at this;exact this
theorem cls_same {s:ByteArray}{n:Nat}(h:Dec.Ends s n)(hn:0<n){bs:Int}(hb:bs=0∨bs=1)(W Br:List Int):clP (bnd s n) (lvE s n bs Br) (wl s W n) (cn s n)=clst (Dec.pos s) (nix (bix s n)) (evOf s n bs Br) W (cn s n):=by
 rw[clP,clst];refine List.map_congr_left (fun k hk=>?_);have hk:=List.mem_range.1 hk;have hl:=(bix_len s n).2.1;have hk1:k<(bix s n).length∧k+1<(bix s n).length:=by unfold cn at hk;omega
 have hkb:k<(begs s n).length:=by rw[←cn_begs hn];exact hk
 rw[clOf,bnd_nth h hk1.1,bnd_nth h hk1.2,wl_cw hn W hk,lvE,lvs_at hkb,←bix_at hn hkb,mixL_all (by rw[levels_len _ _ _ hb,Kl_len];exact bix_in hk)];rfl
theorem lns_small {s:ByteArray}{n:Nat}{Br:List Int}(E:Edges s n Br)(hc:cn s n≤400)(bs:Int)(W:List Int):∀l∈lns s n bs W Br (Br.length+1),l.o.length≤1000∧l.x.length≤1001:=fun l hl=>by
 obtain⟨j,hj,rfl⟩:=List.mem_map.1 hl;have hj:=List.mem_range.1 hj;have h1:=E.le (j+1) (by omega);have h2:eiOf s n Br (j+1) - eiOf s n Br j≤1000:=by unfold eiOf;omega
 unfold lnOf;dsimp only;rw[List.length_map,ordD_len,xs_len];omega
theorem chk_zero' {s:ByteArray}{n:Nat}{K:List Int}{b:Int}{W Br:List Int}(hc:chk s n K b W Br=0):s.size≤400∧(b=0∨b=1∨b=2):=by
 unfold chk at hc;by_cases h1:400<s.size
 ·rw[if_pos h1]at hc;cases hc
 ·rw[if_neg h1]at hc
  by_cases h2:b<0∨2<b
  ·rw[if_pos h2]at hc;cases hc
  ·exact⟨by omega,by omega⟩
structure Twin (s:ByteArray)(b:Int)(W Br:List Int)(Bd V X:List Int)(r bs:Int)(Cs:List (Int × Int × Int × Int))(Ls:List Ln):Prop where
 vx:X.length=V.length
 bd:Bd.length=V.length+1
 vl:V.length≤400
 cs:clP Bd V X V.length=Cs
 l0:0<Ls.length
 l1:Ls.length≤400
 ll:∀l∈Ls,l.o.length≤1000∧l.x.length≤1001
 p:∀w vW vB,Floor w→slAt w vW W→slAd w vB Br→Calls Tryz.prog 66 #[.agg #[.string s,.int .i64 b,vW,vB]] w fun e w'=>∃P v0 v1 v2 vL hs,e=.returned (.pointer (some ⟨P,0,none⟩))∧LP w' w.heap.size P Bd V X r Ls v0 v1 v2 vL hs∧Fr [] w w'
def lnN (Ls:List Ln)(i:Nat):Ln:=Ls[i]?.getD ⟨0,0,[],[]⟩
structure Tame (Bd V:List Int)(Ls:List Ln):Prop where
 vb:∀i,0≤nth V i∧nth V i≤1000
 ob:∀l∈Ls,∀k∈l.o,k<V.length
 xl:∀l∈Ls,l.x.length=l.o.length+1
 xb:∀l∈Ls,∀k,k<l.x.length→0≤nth l.x k∧nth l.x k≤nth l.x (l.x.length - 1)∧nth l.x k≤1000000000000000
theorem xsum_mono {f:Nat→Int}{o:List Nat}{M:Int}(h:∀j,0≤f j∧f j≤M):∀k d,xsum f o k≤xsum f o (k+d)∧xsum f o (k+d)≤xsum f o k+d * M
 | k,0=>by simp
 | k,d+1=>by
   have ih:=xsum_mono (o:=o) h k d;have hh:=h (nix o (k+d));rw[show k+(d+1)=(k+d)+1 from rfl,xsum];have e:((d+1:Nat):Int) * M=(d:Int) * M+M:=by rw[Int.natCast_add,Int.add_mul];simp
   rw[e];omega
theorem lnN_mem {Ls:List Ln}{i:Nat}(h:i<Ls.length):lnN Ls i∈Ls:=by
 rw[lnN,List.getElem?_eq_getElem h];exact List.getElem_mem _
theorem nix_le {s:ByteArray}{n:Nat}(k:Nat):nix (bix s n) k≤n:=by
 by_cases hk:k<cn s n
 ·exact Nat.le_of_lt (bix_in hk)
 ·have hl:=(bix_len s n).2.1
  by_cases hk2:k=cn s n
  ·rw[hk2,bix_last];exact Nat.le_refl _
  ·rw[nix,List.getElem?_eq_none (by unfold cn at hk hk2;omega)];exact Nat.zero_le _
theorem tame_pos {s:ByteArray}{n:Nat}(hn:0<n)(hn4:n≤400){bs:Int}(hb:bs=0∨bs=1){W Br:List Int}(hW:∀i,0≤nth W i∧nth W i≤1073741824)(E:Edges s n Br)(hc:cn s n≤400):Tame (bnd s n) (lvE s n bs Br) (lns s n bs W Br (Br.length+1)):=by
 have hvl:(lvE s n bs Br).length=cn s n:=by rw[lvE,lvs_len,←cn_begs hn]
 have hwid:∀k,0≤wid W (nix (bix s n) k) (nix (bix s n) (k+1))∧wid W (nix (bix s n) k) (nix (bix s n) (k+1))≤429496729600:=fun k=>by
  have h1:=wid_bound W 1073741824 hW (nix (bix s n) k) (nix (bix s n) (k+1) - nix (bix s n) k);have h2:=nix_le (s:=s) (n:=n) (k+1);unfold wid;omega
 have hl:∀l∈lns s n bs W Br (Br.length+1),∃a b,a≤b∧b≤cn s n∧l=lnOf (Dec.pos s) (nix (bix s n)) (evOf s n bs Br) W a b:=fun l hl=>by
  obtain⟨j,hj,rfl⟩:=List.mem_map.1 hl;have hj:=List.mem_range.1 hj;exact⟨_,_,Nat.le_of_lt (E.mono j (j+1) (by omega) (by omega)),E.le (j+1) (by omega),rfl⟩
 refine⟨lvs_in (fun i=>?_),fun l hm k hk=>?_,fun l hm=>?_,fun l hm k hk=>?_⟩
 ·by_cases hi:i<n
  ·rw[mixL_all (by rw[levels_len _ _ _ hb,Kl_len];exact hi)]
   have:=elv_bound (Rl s n) (Kl s n) bs hb (edg (bix s n) (bnd s n) Br) i;omega
  ·rw[nth_over (by rw[mixL_len,levels_len _ _ _ hb,Kl_len];omega)];decide
 ·obtain⟨a,b,hab,hbc,rfl⟩:=hl l hm
  obtain⟨t,ht,rfl⟩:=List.mem_map.1 (show k∈(ordD _ (b - a)).map _ from hk);have:=ordD_lt _ _ t ht;rw[hvl];omega
 ·obtain⟨a,b,hab,hbc,rfl⟩:=hl l hm
  unfold lnOf;dsimp only;rw[xs_len,List.length_map,ordD_len]
 ·obtain⟨a,b,hab,hbc,rfl⟩:=hl l hm
  unfold lnOf at hk ⊢;dsimp only at hk ⊢;rw[xs_len]at hk ⊢;rw[xs_at _ _ (by omega),xs_at _ _ (by omega)];have m1:=xsum_mono (f:=fun k=>wid W (nix (bix s n) k) (nix (bix s n) (k+1))) (o:=(ordD (fun t=>evOf s n bs Br (nix (bix s n) (a+t))) (b - a)).map (fun t=>t+a)) hwid 0 k;have m2:=xsum_mono (f:=fun k=>wid W (nix (bix s n) k) (nix (bix s n) (k+1))) (o:=(ordD (fun t=>evOf s n bs Br (nix (bix s n) (a+t))) (b - a)).map (fun t=>t+a)) hwid k (b - a - k);rw[Nat.zero_add]at m1;rw[show k+(b - a - k)=b - a+1 - 1 by omega]at m2;have e0:xsum (fun k=>wid W (nix (bix s n) k) (nix (bix s n) (k+1))) ((ordD (fun t=>evOf s n bs Br (nix (bix s n) (a+t))) (b - a)).map (fun t=>t+a)) 0=0:=rfl;rw[e0]at m1;refine⟨m1.1,m2.1,Int.le_trans m1.2 ?_⟩;omega
theorem tame_nil:Tame [0] [] [ln0]:=by
 refine⟨fun i=>?_,fun l hl k hk=>?_,fun l hl=>?_,fun l hl k hk=>?_⟩
 ·rw[nth_over (by simp)];decide
 ·rw[List.mem_singleton.1 hl]at hk;cases hk
 ·rw[List.mem_singleton.1 hl];rfl
 ·rw[List.mem_singleton.1 hl]at hk ⊢
  obtain rfl:k=0:=by simp[ln0]at hk;exact hk
  decide
theorem lnN_get {Ls:List Ln}{i:Nat}(h:i<Ls.length):Ls[i]?=some (lnN Ls i):=by rw[lnN,List.getElem?_eq_getElem h];rfl
def placeL (Bd:List Int)(z off:Int)(back:Bool):Int × Bool :=
 let o:=best Bd (min (max off 0) z) Bd.length
 (o,if o=0 then false else if o=z then true else back)
theorem obj_two {w W:World}(o1:Obj){x0 x1 y0 y1:Value}{t:Nat}(h:Fr [w.heap.size] ((w.alloc o1).alloc (.cells #[x0,x1] t)) W):((W.setCell ⟨w.heap.size+1,0,none⟩ y0).setCell ⟨w.heap.size+1,1,none⟩ y1).heap[w.heap.size+1]?=some (.cells #[y0,y1] t (0,0)):=by
 have hs:(w.alloc o1).heap.size=w.heap.size+1:=by simp
 have h0:=obj_new (w.alloc o1) (.cells #[x0,x1] t);rw[hs]at h0;exact obj_set (obj_set (obj_fr h0 h (by simp)) 0 y0) 1 y1
set_option maxRecDepth 10000 in
theorem end_any (Bd:List Int)(z:Int)(hr:Rises Bd z)(gB cB nB:Nat)(v1 v2:Value)(w:World)(hn:nB=Bd.length)(hl:nB≤1000)(hB:rowAt w gB nB Bd) :
 Calls Tryz.prog 130 #[.agg #[.slice (some ⟨gB,0,none⟩) nB cB,v1,v2]] w fun e w'=>e=.returned (.int .i64 z)∧w'=w.alloc (.cells #[.slice (some ⟨gB,0,none⟩) nB cB,v1,v2] 146):=by
 have hl0:=hr.len;obtain⟨m,hm⟩:∃m,m=nB - 1:=⟨_,rfl⟩;have hz:nth Bd m=z:=by rw[hm,hn,nth,hr.last];rfl
 have c1:=hB m (by omega);rw[hz]at c1;have hw1:IntKind.i64.wrap ((nB:Int) - 1)=(m:Int):=by rw[IntKind.wrap_i64];omega
 have hmI:(m:Int)<(nB:Int):=by omega
 have hgl:=World.block_lt_of_cell? _ _ c1;dsimp only at hgl;clear hB hr hz hm hn;go_enter Tryz.func130,Tryz.ntmps130;go_wp2;go_ret;exact⟨rfl,rfl⟩
theorem ret57 {w W:World}{o1:Obj}{x0 x1 y0 y1:Value}{Q:Ending→World→Prop}{tm:Array Value}(htm:tm.getD 4 undef=.pointer (some ⟨w.heap.size+1,0,none⟩))(h:Fr [w.heap.size] ((w.alloc o1).alloc (.cells #[x0,x1] 26)) W)(hq:Q (.returned (.agg #[y0,y1])) ((W.setCell ⟨w.heap.size+1,0,none⟩ y0).setCell ⟨w.heap.size+1,1,none⟩ y1)):bodyPost Tryz.prog Tryz.f97 Q .ret { tmps:=tm,defers:=[] } ((W.setCell ⟨w.heap.size+1,0,none⟩ y0).setCell ⟨w.heap.size+1,1,none⟩ y1):=by
 have HEND:=obj_two (y0:=y0) (y1:=y1) o1 h;exact bodyPost_ret (results_cell_row (t:=26) (fr:=(0,0)) rfl _ _ (w.heap.size+1) _ _ htm HEND Tryz.underlying26 rfl (by kernel_rfl)) rfl hq
theorem ret57b {w W:World}{o1 o3:Obj}{x0 x1 y0 y1:Value}{Q:Ending→World→Prop}{tm:Array Value}(htm:tm.getD 4 undef=.pointer (some ⟨w.heap.size+1,0,none⟩))(h:Fr [w.heap.size] ((w.alloc o1).alloc (.cells #[x0,x1] 26)) W)(hq:Q (.returned (.agg #[y0,y1])) (((W.setCell ⟨w.heap.size+1,0,none⟩ y0).setCell ⟨w.heap.size+1,1,none⟩ y1).alloc o3)):bodyPost Tryz.prog Tryz.f97 Q .ret { tmps:=tm,defers:=[] } (((W.setCell ⟨w.heap.size+1,0,none⟩ y0).setCell ⟨w.heap.size+1,1,none⟩ y1).alloc o3):=by
 have HEND:=obj_fr (obj_two (y0:=y0) (y1:=y1) o1 h) ((Fr.refl [] _).alloc o3) List.not_mem_nil;exact bodyPost_ret (results_cell_row (t:=26) (fr:=(0,0)) rfl _ _ (w.heap.size+1) _ _ htm HEND Tryz.underlying26 rfl (by kernel_rfl)) rfl hq
set_option maxRecDepth 10000 in
set_option maxHeartbeats 4000000 in
theorem placeP_any (B P:Nat)(Bd V X:List Int)(r z:Int)(Ls:List Ln)(v0 v1 v2 vL:Value)(hs:List Value)(off:Int)(back:Bool)(w:World)(h:LP w B P Bd V X r Ls v0 v1 v2 vL hs)(hr:Rises Bd z)(hz:0≤z)(hl:Bd.length≤1000) :
 Calls Tryz.prog 97 #[.pointer (some ⟨P,0,none⟩),.agg #[.int .i64 off,.bool back]] w fun e w'=>e=.returned (.agg #[.int .i64 (placeL Bd z off back).1,.bool (placeL Bd z off back).2])∧Fr [] w w':=by
 obtain⟨k,hk⟩:=cut_exists (min (max off 0) z) Bd hr.sorted;have hl0:=hr.len;obtain⟨gB,cB,hvB,_,HRB⟩:=h.b.row hl0;subst hvB;have H100:=hid (fun(Y:World) (hf:Fr [] w Y)=>Cls.fn35_any Bd z hr off false k gB cB Y hz hk (by omega) (fun j hj=>HRB.fr hf List.not_mem_nil j hj));rw[←snap_down hr hk (by omega)]at H100;have H101:=hid (fun(Y:World) (hf:Fr [] w Y)=>end_any Bd z hr gB cB Bd.length v1 v2 Y rfl hl (HRB.fr hf List.not_mem_nil));have p0:=obj_cell h.o (i:=0) (v:=.slice (some ⟨gB,0,none⟩) Bd.length cB) rfl;have p1:=obj_cell h.o (i:=1) (v:=v1) rfl;have p2:=obj_cell h.o (i:=2) (v:=v2) rfl;have hPl:P<w.heap.size:=World.block_lt_of_cell? _ _ p0;have HPL:=hid (show placeL Bd z off back=(best Bd (min (max off 0) z) Bd.length,if best Bd (min (max off 0) z) Bd.length=0 then false else if best Bd (min (max off 0) z) Bd.length=z then true else back)from rfl);rw[HPL.out];dsimp only;generalize best Bd (min (max off 0) z) Bd.length=o at *;clear h hr hk HRB HPL hl hl0;obtain⟨bk,hbk⟩:∃bk,bk=(if o=0 then false else if o=z then true else back):=⟨_,rfl⟩;rw[←hbk];have HBK:=hid hbk;clear hbk;go_enter Tryz.func97,Tryz.ntmps97;go_wp2_with fail
 go_region_with (first
  | (go_at_call 40;refine(H100.out _ ?fa).mono ?_;(case fa=>(repeat(first | refine Fr.set_new ?_ (by omega) | refine Fr.drewN ?_ _ | refine Fr.drew ?_ | with_reducible exact Fr.refl _ _ | refine Fr.alloc ?_ _)));rintro e w1 ⟨rfl,q,rfl⟩))
 all_goals (
  by_cases ho0:o=0
  ·subst ho0
   have hb:=HBK.out
   rw[if_pos rfl]at hb
   subst hb
   go_wp2
   refine ret57 (o1:=.cells #[.int .i64 off,.bool back] 26) (x0:=.int .i64 0) (x1:=.bool false) rfl ?_ ⟨rfl,?_⟩
   ·(repeat(first | refine Fr.set ?_ (List.mem_singleton.2 rfl) _ | refine Fr.drewN ?_ _ | refine Fr.drew ?_ | with_reducible exact Fr.refl _ _ | refine Fr.alloc ?_ _))
   ·(repeat(first | refine Fr.set_new ?_ (by omega) | refine Fr.drewN ?_ _ | refine Fr.drew ?_ | with_reducible exact Fr.refl _ _ | refine Fr.alloc ?_ _))
  ·have ho0':(o == 0)=false:=by simpa using ho0
   by_cases ho1:o=z
   ·have hb:=HBK.out
    rw[if_neg ho0,if_pos ho1]at hb
    subst ho1
    subst hb
    go_wp2_with (first
     | (go_at_call 130;refine(H101.out _ ?fa).mono ?_;(case fa=>(repeat(first | refine Fr.set_new ?_ (by omega) | refine Fr.drewN ?_ _ | refine Fr.drew ?_ | with_reducible exact Fr.refl _ _ | refine Fr.alloc ?_ _)));rintro e w1 ⟨rfl,rfl⟩))
    refine ret57b (o1:=.cells #[.int .i64 off,.bool back] 26) (x0:=.int .i64 0) (x1:=.bool false) rfl ?_ ⟨rfl,?_⟩
    ·(repeat(first | refine Fr.set ?_ (List.mem_singleton.2 rfl) _ | refine Fr.drewN ?_ _ | refine Fr.drew ?_ | with_reducible exact Fr.refl _ _ | refine Fr.alloc ?_ _))
    ·(repeat(first | refine Fr.set_new ?_ (by omega) | refine Fr.drewN ?_ _ | refine Fr.drew ?_ | with_reducible exact Fr.refl _ _ | refine Fr.alloc ?_ _))
   ·have hb:=HBK.out
    rw[if_neg ho0,if_neg ho1]at hb
    subst back
    have ho1':(o == z)=false:=by simpa using ho1
    go_wp2_with (first
     | (go_at_call 130;refine(H101.out _ ?fa).mono ?_;(case fa=>(repeat(first | refine Fr.set_new ?_ (by omega) | refine Fr.drewN ?_ _ | refine Fr.drew ?_ | with_reducible exact Fr.refl _ _ | refine Fr.alloc ?_ _)));rintro e w1 ⟨rfl,rfl⟩))
    refine ret57b (o1:=.cells #[.int .i64 off,.bool bk] 26) (x0:=.int .i64 0) (x1:=.bool false) rfl ?_ ⟨rfl,?_⟩
    ·(repeat(first | refine Fr.set ?_ (List.mem_singleton.2 rfl) _ | refine Fr.drewN ?_ _ | refine Fr.drew ?_ | with_reducible exact Fr.refl _ _ | refine Fr.alloc ?_ _))
    ·(repeat(first | refine Fr.set_new ?_ (by omega) | refine Fr.drewN ?_ _ | refine Fr.drew ?_ | with_reducible exact Fr.refl _ _ | refine Fr.alloc ?_ _)))
set_option maxRecDepth 10000 in
set_option maxHeartbeats 4000000 in
theorem xP_any (B P:Nat)(Bd V X:List Int)(r:Int)(Ls:List Ln)(v0 v1 v2 vL:Value)(hs:List Value)(off:Int)(back:Bool)(i k:Nat)(w:World)(h:LP w B P Bd V X r Ls v0 v1 v2 vL hs)(hi:i<Ls.length)(hk:k<(lnN Ls i).x.length)(hK:Ls.length≤400)(hx:(lnN Ls i).x.length≤1001)(hg:∀Y,Fr [] w Y→Calls Tryz.prog 62 #[.pointer (some ⟨P,0,none⟩),.agg #[.int .i64 off,.bool back]] Y fun e w'=>e=.returned (.agg #[.int .i64 (i:Nat),.int .i64 (k:Nat)])∧Fr [] Y w') :
 Calls Tryz.prog 63 #[.pointer (some ⟨P,0,none⟩),.agg #[.int .i64 off,.bool back]] w fun e w'=>e=.returned (.int .i64 (nth (lnN Ls i).x k))∧Fr [] w w':=by
 obtain⟨U,_,hn⟩:=h.n;obtain⟨vO,vX,_,_,_,a4,_,a6,_⟩:=hn i _ (lnN_get hi);obtain⟨gL,cL,hvL⟩:=owns_shape (by omega) h.l;subst hvL;obtain⟨gX,cX,hvX⟩:=owns_shape (by omega) a6;subst hvX;have c3:w.cell? ⟨gL,i * 4+3,none⟩=some (.slice (some ⟨gX,0,none⟩) (lnN Ls i).x.length cX):=by rw[h.l.cellAt _ (by omega)];exact a4
 have c4:w.cell? ⟨gX,k,none⟩=some (.int .i64 (nth (lnN Ls i).x k)):=by rw[a6.cellAt k (by omega),ints64_at hk]
 have p3:=obj_cell h.o (i:=3) (v:=.slice (some ⟨gL,0,none⟩) Ls.length cL) rfl;have hPl:P<w.heap.size:=World.block_lt_of_cell? _ _ p3;obtain⟨w2,hw2⟩:∃w2,w2=w.alloc (.cells #[.int .i64 off,.bool back] 26):=⟨_,rfl⟩;have HF2:=hid (show Fr [] w w2 by rw[hw2];(repeat(first | refine Fr.set_new ?_ (by omega) | refine Fr.drewN ?_ _ | refine Fr.drew ?_ | with_reducible exact Fr.refl _ _ | refine Fr.alloc ?_ _)));have HO2:=hid (show w2.heap[w.heap.size]?=some (.cells #[.int .i64 off,.bool back] 26 (0,0)) by rw[hw2];exact obj_new w _);have H59:=hid hg;have hiI:(i:Int)<(Ls.length:Int):=by omega
 have hkI:(k:Int)<((lnN Ls i).x.length:Int):=by omega
 generalize nth (lnN Ls i).x k=y at *;generalize (lnN Ls i).x.length=lx at *;generalize Ls.length=K at *;have HC:=hid (And.intro p3 (And.intro c3 c4));clear h hn a4 a6 hg;go_enter Tryz.func63,Tryz.ntmps63;have HW2:=hid hw2;clear hw2;go_wp2_with fail;rw[←HW2.out];refine(H59.out _ HF2.out).mono ?_;rintro e w4 ⟨rfl,hf4⟩;have HF4:=hid (HF2.out.trans hf4);have d1:=HF4.out.cell p3 List.not_mem_nil;have d2:=HF4.out.cell c3 List.not_mem_nil;have d3:=HF4.out.cell c4 List.not_mem_nil;clear hf4 p3 c3 c4;have e1:=World.block_lt_of_cell? _ _ d1;have e2:=World.block_lt_of_cell? _ _ d2;have e3:=World.block_lt_of_cell? _ _ d3;dsimp only at e1 e2 e3;go_wp2_with fail;go_quiet (fail);go_wp2;go_ret;exact⟨rfl,by repeat(first | exact HF4.out | refine Fr.drewN ?_ _ | refine Fr.alloc ?_ _)⟩
end Go.Proofs.YtnakejhohdbfdacGreatDoor

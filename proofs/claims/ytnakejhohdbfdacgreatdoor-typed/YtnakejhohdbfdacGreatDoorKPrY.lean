import Derived.Test.YtnakejhohdbfdacGreatDoorKMj
import Derived.Shelf.Abstract
import Derived.Deep.CutRange
import Derived.Deep.RegionHeld
namespace Go.Proofs.YtnakejhohdbfdacGreatDoor
open Go.RowKit Lev Go.Maps
set_option linter.unusedSimpArgs false in
set_option maxRecDepth 10000 in
set_option maxHeartbeats 8000000 in
theorem seqs_any (q:UH)(C L:List Int)(P cU mb nm:Nat)(lv:Int)(D:DataW Unit)(w:World)(hu:US w q C L)(hq:QM w q P cU mb nm lv D)(hK:q.K.length=q.n)(hn:q.n≤1000000)(hn0:0<q.n)(hL:∀i,0≤nth L i)
 (hfl:∀a b:List Nat,lastN a<q.K.length→follows q.K a b=true→nth L (firstN b)=nth L (lastN a)) :
 Calls Tryz.prog 138 #[.pointer (some ⟨P,0,none⟩)] w fun e w'=>∃v gs B,e=.returned v∧AL w' B q.U v gs∧gsOk q.K L lv gs (seqs q.K (runsTo q.K L q.K.length))∧w.heap.size≤B∧Fr [] w w':=by
 obtain⟨i1,hi1,hy0,hy1,hy2⟩:=info_parts info263;have hmm:=@run_makeMap Tryz.prog;have HU:=hid hu;have HQ:=hid hq;have hUl:q.U<w.heap.size:=World.block_lt_of_cell? _ _ (hu.r 0 hn0);have hPl:P<w.heap.size:=World.block_lt_of_cell? _ _ hq.s.c0;have HC123:=hid (fn52_any q C L P cU lv w hu hq.s hK hn hn0);have HRI:=hid (run_inv q.K L q.K.length);have HRO:=hid (runs_ok q.K L);have HSH:=hid (runs_short q.K L q.K.length);have HDV:=hid (dv_seqs (runs_ok q.K L));have HLV:=hid (all_level (run_inv q.K L q.K.length) (runs_ok q.K L) hfl);have HL:=hid hL;have HK:=hid hK;generalize runsTo q.K L q.K.length=rs at *;clear hu hq hK hL hfl;go_enter Tryz.func138,Tryz.ntmps138;go_wp2_with (first | (go_at_call 172;refine HC123.out.mono ?_;rintro e wB ⟨v,rfl,ls,hs,B0,hrp,hlv⟩;obtain⟨a1,c1,hv1⟩:=owns_slice hrp.own;obtain⟨n,hn'⟩:∃n,n=rs.length:=⟨_,rfl⟩;rw[←hn']at hv1;subst hv1;have HRP:=hid hrp;have HLO:=hid hlv;have HN:=hid hn';have hsh:=HSH.out.1;rw[←hn',HK.out]at hsh;have hnb:n≤1000000:=(by omega);have hBw:=hrp.fr.size;clear hrp hlv hn' hsh));go_loopw [4,17] (fun v a wr=>∃(k:Nat) (gs:List SD) (D':DataW Unit),a=.int .i64 k∧k≤n∧Hid (AL wr wB.heap.size q.U v gs)∧Hid (gsOk q.K L lv gs (dvTo q.K rs k).all)∧Hid (wr.ownsMap Tryz.prog 3 (plainElem Tryz.prog 3) wB.heap.size k D')∧Hid (mapIs D' (dvTo q.K rs k).aw)∧Hid (Fr [] wB wr)) (fun _ a _=>n - (intOf a).toNat)
 case atStart=>exact⟨0,[],_,rfl,Nat.zero_le _,hid (AL.start _ _ _),hid ⟨rfl,fun x hx=>by simp at hx⟩,hid (World.ownsMap_made _ _ _ _),hid mapIs_empty,hid ((Fr.refl _ _).alloc _)⟩
 case round =>
  obtain⟨k,gs,D',rfl,hk,HA,HG,HM,HI,HF⟩:=hrel;by_cases hlt:k<n
  ·have hkr:k<rs.length:=by rw[←HN.out];exact hlt
   have hown:=HRP.out.own;rw[←HN.out]at hown;obtain⟨o,cap,hsh2⟩:=owns_shape (by omega) hown;cases hsh2;have HRPw:=hid (HRP.out.fr0 HF.out);obtain⟨g,c,hh1,hh2,hh3⟩:=HRP.out.row (fun j hj=>HRO.out.ne j hj) hkr;have hcl:=HRPw.out.cells HN.out hlt;have k1:=hcl.1;have k2:=hcl.2;rw[hh1]at k2;have HH1:=hid hh1;have HH3:=hid hh3;have HR3:=hid (owns_fr0 hh3 HF.out);have hr0:=List.length_pos_iff.2 (HRO.out.ne k hkr);have hrl:(run rs k).length≤1000000:=by have h5:=HSH.out.2 _ (run_mem hkr);rw[HK.out]at h5;omega
   have p0:=owns_rowN HR3.out rfl 0 hr0;have HFN:=hid (show nix (run rs k) 0=firstN (run rs k)from rfl);have hol:=World.block_lt_of_cell? _ _ k1;have hgl:=World.block_lt_of_cell? _ _ p0;dsimp only at hol hgl;have hkI:(k:Int)<(n:Int):=by omega
   have hwl:=HF.out.size;have HFL:=hid (HRO.out.mem hkr (firstN_mem (HRO.out.ne k hkr)));have HLK:=hid (HLO.out k hkr);obtain⟨l,hl⟩:∃l,l=(run rs k).length:=⟨_,rfl⟩;rw[←hl]at k2 hr0 hrl;have HLL:=hid hl;have hl0:(0:Int)<(l:Int):=by omega
   generalize hx0:nix (run rs k) 0=x0 at *;have hx0b:x0≤1000000:=by have h5:=HFL.out.1;rw[HK.out,←HFN.out]at h5;omega
   generalize hyk:nth ls k=yk at *;have HYK:=hid hyk;clear hown hcl hh1 hh3 hl hx0 hyk hkr;have HHAS:=hid (HI.out.2 x0);have HML:=HM.out.lt;obtain⟨X,hX⟩:∃X,X=way (max yk (if ini (nth q.K (lastN (run rs k)))then lv else lvOf ls n lv ((k:Int)+1))):=⟨_,rfl⟩;have HX:=hid hX;obtain⟨Y,hY⟩:∃Y,Y=way (max yk (lvOf ls n lv ((k:Int) - 1))):=⟨_,rfl⟩;have HY:=hid hY;obtain⟨bx,hbx⟩:∃bx:Obj,bx=.cells #[.int .i64 yk,.slice (some ⟨g,0,none⟩) l c] 294:=⟨_,rfl⟩;have HM1:=hid (HM.out.alloc bx);have HA1:=hid (HA.out.fr0 ((Fr.refl [] wr).alloc bx));have HF1:=hid (HF.out.alloc bx);have HB1:=hid (heap_alloc_new wr bx);rw[hbx]at HM1 HA1 HF1 HB1;have HKR:=hid (show k<rs.length by rw[←HN.out];exact hlt);have HGL:=hid (gs_len HG.out);have hcnt:=all_count q.K rs k;rw[←HGL.out]at hcnt;have HFLT:=hid (show(rs.take k).flatten.length+l≤1000000 by have h5:=flat_le HRI.out (k:=k+1);rw[take_flat HKR.out,←HLL.out,HK.out]at h5;omega);clear hbx hX hY;go_upto_if 32 with(at_lookup;refine wpList_lookup_own_ok_int _ rfl _ _ 258 rfl 3 3 .i64 law3 Tryz.underlying258 Tryz.underlying3 (zero3 _) wB.heap.size k D' rfl HM1.out _ (kN x0) rfl (keyOf_int_mk Tryz.underlying3 (WalkArith.wf_i64 (by omega))) ?_;intro c2 hat hwc)
   go_cut [4,8,9]from 18 to 84 (fun v4 v8 _ wx=>∃(a g4 n4 c4:Nat) (gs1:List SD) (d1:SD),v8=.int .i64 a∧v4=.slice (some ⟨g4,0,none⟩) n4 c4∧a<n4∧n4≤1000001∧Hid (AL wx wB.heap.size q.U (.slice (some ⟨g4,0,none⟩) n4 c4) gs1)∧Hid (n4=gs1.length)∧Hid (gs1[a]?=some d1)∧Hid (a=ow q.K rs k)∧Hid (∀v',gsOk q.K L lv (gs1.set a ⟨d1.S,v',d1.I++run rs k,d1.lv,d1.bef,X⟩) (dvTo q.K rs (k+1)).all)∧Hid (d1.I.length+l≤1000000)∧Hid (wx.ownsMap Tryz.prog 3 (plainElem Tryz.prog 3) wB.heap.size k D')∧Hid (wx.heap[wr.heap.size]?=some (.cells #[.int .i64 yk,.slice (some ⟨g,0,none⟩) l c] 294 (0,0)))∧Hid (Fr [] wB wx))
   case first =>
    cases haw:(dvTo q.K rs k).aw x0 with
    | some a =>
      have hhas:Maps.has D' (kN x0)=true:=by rw[HHAS.out.1,haw];rfl
      obtain rfl:c2=(a:Int):=by have h5:=hat.symm.trans (HHAS.out.2 a haw _);simpa using h5
      rw[hhas];have halt:a<gs.length:=by rw[HGL.out];exact aw_lt q.K rs k _ _ haw
      obtain⟨d1,hd1⟩:∃d1,gs[a]?=some d1:=⟨_,List.getElem?_eq_getElem halt⟩;have hown4:=HA1.out.own;obtain⟨g4,c4,hsh4⟩:=owns_shape (by omega) hown4;obtain⟨n4,hn4⟩:∃n4,n4=gs.length:=⟨_,rfl⟩;rw[←hn4]at hsh4;subst hsh4;have HR1:=hid (show Hid (a=ow q.K rs k)from hid (by rw[ow,←HFN.out,haw]));have HR2:=hid (fun v'=>by have h5:=HG.out.old HKR.out HRI.out HRO.out HLV.out HLO.out (by rw[←HFN.out];exact haw) hd1 v';rw[HYK.out,←HN.out,←HX.out]at h5;exact h5);have HR3:=hid (show d1.I.length+l≤1000000 by have h5:=all_short (K:=q.K) (rs:=rs) k (by have:=HKR.out;omega) a d1.I (gs_at HG.out hd1);have:=HFLT.out;omega);have HN4:=hid hn4;have HD1:=hid hd1;clear haw hat hwc hhas hown4 hn4 hd1;go_wp2;go_meet;exact⟨a,g4,n4,c4,gs,d1,rfl,rfl,by have:=HN4.out;omega,by have:=HN4.out;omega,HA1,HN4,HD1,HR1.out,HR2,HR3,HM1,HB1,HF1⟩
    | none =>
      have hhas:Maps.has D' (kN x0)=false:=by rw[HHAS.out.1,haw];rfl
      rw[hhas];obtain⟨a4,c4,hv4⟩:=owns_slice HA1.out.own;obtain⟨n4,hn4⟩:∃n4,n4=gs.length:=⟨_,rfl⟩;rw[←hn4]at hv4;subst hv4;have HN4:=hid hn4;have hown4:=HA1.out.own;rw[←hn4]at hown4 hcnt;have HO4:=hid hown4;have HR1:=hid (show n4=ow q.K rs k by rw[ow,←HFN.out,haw,hn4];exact HGL.out);have HR2:=hid (fun S v'=>by have h5:=HG.out.new HKR.out HRI.out HLO.out (by rw[←HFN.out];exact haw) S v';rw[HYK.out,←HN.out,←HX.out,←HY.out]at h5;exact h5);have H125:=hid (fun Z (hf:Fr [] wr Z)=>fn54_any q P cU lv w Z o n c1 B0 rs ls hs ((k:Int) - 1) (HQ.out.s.fr (HRP.out.fr.trans (HF.out.trans hf)) List.not_mem_nil) (HRPw.out.fr0 hf) HN.out);have hyk0:0≤yk:=by have h5:=HL.out (firstN (run rs k));have h6:=HLK.out;rw[←h6]at h5;exact h5
      have H124:=hid (fun Z=>fn53_any yk (lvOf ls n lv ((k:Int) - 1)) Z hyk0);rw[←HY.out]at H124;generalize lvOf ls n lv ((k:Int) - 1)=z1 at *;have hwr:IntKind.i64.wrap ((k:Int) - 1)=(k:Int) - 1:=by rw[IntKind.wrap_i64];omega
      clear haw hat hwc hhas hn4 hown4;go_wp2
      go_region_law (first
       | (refine step_call_same rfl 174 _ _ rfl (enters_of Tryz.func174 (by kernel_rfl) rfl) #[.pointer (some ⟨P,0,none⟩),.slice (some ⟨o,0,none⟩) n c1,.int .i64 ((k:Int) - 1)] ?q1 (.int .i64 z1) (H125.out _ ?q2) ?_;(case q1=>simp[Act.eval,Act.put]);(case q2=>exact((Fr.refl [] wr).alloc _).drew))
       | (refine step_call_same rfl 173 _ _ rfl (enters_of Tryz.func173 (by kernel_rfl) rfl) #[.int .i64 yk,.int .i64 z1] ?q1 (.int .i64 Y) (H124.out _) ?_;(case q1=>simp[Act.eval,Act.put]))
       | (refine step_append_at rfl (.tmp 35) (.tmp 48) 261 rfl wB.heap.size 263 i1 _ 1 8 Tryz.underlying261 hi1 hy0 hy1 hy2 rfl (by decide) (.slice a4 n4 c4) n4 (gs.map (fun d=>.pointer (some ⟨d.S,0,none⟩))) ?q1 ?q2 ⟨wr.heap.size+2,0,none⟩ 1 1 [.pointer (some ⟨wr.heap.size+1,0,none⟩)] ?q3 rfl ?q4 (ptr_one _) (by unfold maxLen;omega) (by omega) ?q5 ?_;(case q1=>simp[Act.eval,Act.put]);(case q2=>exact owns_fr0 HO4.out ((((Fr.refl [] _).drew).alloc _).alloc _));(case q3=>simp[Act.eval,Act.put]);(case q4=>exact news_at _ _ _ _ (by simp));(case q5=>simp;omega);intro v' w' hown hgrow hat;obtain⟨g',c',hv'⟩:=owns_shape (by omega) hown;subst hv';have HXX:=hid (HA1.out.made HN4.out hown hgrow (by simp) HF1.out HM1.out HB1.out (by decide));clear hown hgrow hat))
      all_goals (
       go_wp2
       go_meet
       exact⟨n4,g',n4+1,c',gs++[⟨wr.heap.size+1,.slice none 0 0,[],yk,Y,0⟩],⟨wr.heap.size+1,.slice none 0 0,[],yk,Y,0⟩,rfl,rfl,by omega,by omega,hid HXX.out.1,hid (by rw[List.length_append,←HN4.out];rfl),hid (by rw[HN4.out];simp),HR1,hid (fun v'=>by rw[HN4.out];simp;exact HR2.out _ v'),hid (by have:=HFLT.out;simp;omega),hid HXX.out.2.2.1,hid HXX.out.2.2.2,hid HXX.out.2.1⟩)
   case rest =>
    obtain⟨a,g4,n4,c4,gs1,d1,rfl,rfl,ha4,hn4,HA2,HN4,HD1,HOW,HG2,HLN,HM2,HB2,HF2⟩:=hcut;obtain⟨S,v1,I1,lv1,bef1,aft1⟩:=d1;have HSB:=hid (HA2.out.sb a _ HD1.out);have q0:=HA2.out.cell HD1.out HN4.out;dsimp only at q0;have b0:wc.cell? ⟨wr.heap.size,0,none⟩=some (.int .i64 yk):=by rw[cell_of_row _ _ 0 _ 294 (0,0) HB2.out];rfl
    have b1:wc.cell? ⟨wr.heap.size,1,none⟩=some (.slice (some ⟨g,0,none⟩) l c):=by rw[cell_of_row _ _ 1 _ 294 (0,0) HB2.out];rfl
    have s3:wc.cell? ⟨S,3,none⟩=some (.int .i64 aft1):=HSB.out.cell rfl;have f3:wc.frozen? ⟨S,3,none⟩=false:=HSB.out.froz 3;have ha4I:(a:Int)<(n4:Int):=by omega
    have HLT:=hid (show lastN (run rs k)<q.n by have h5:=(HRO.out.mem HKR.out (lastN_mem (HRO.out.ne k HKR.out))).1;rw[HK.out]at h5;exact h5);have hyk0:0≤yk:=by have h5:=HL.out (firstN (run rs k));have h6:=HLK.out;rw[←h6]at h5;exact h5
    obtain⟨z2,hz2⟩:∃z2,z2=if ini (nth q.K (lastN (run rs k)))then lv else lvOf ls n lv ((k:Int)+1):=⟨_,rfl⟩
    have H126:=hid (fun Z (hf:Fr [] wc Z)=>fn55_any q C L P cU lv w Z o n c1 B0 rs ls hs k g c (HU.out.fr (HRP.out.fr.trans (HF2.out.trans hf)) List.not_mem_nil) (HQ.out.s.fr (HRP.out.fr.trans (HF2.out.trans hf)) List.not_mem_nil) (HRP.out.fr0 (HF2.out.trans hf)) HN.out hlt hnb HH1.out (owns_fr0 HH3.out (HF2.out.trans hf)) (by rw[←HLL.out];exact hr0) (by rw[←HLL.out];exact hrl) HLT.out);rw[←hz2]at H126;have H124:=hid (fun Z=>fn53_any yk z2 Z hyk0);rw[hz2,←HX.out,←hz2]at H124;have hg4l:=World.block_lt_of_cell? _ _ q0;have hbl:=World.block_lt_of_cell? _ _ b0;have hSl:=World.block_lt_of_cell? _ _ s3;dsimp only at hg4l hbl hSl;clear hz2 k1 k2 p0 hUl hol hgl;go_upto_region 11 with fail
    go_cut []from 18 to 84 (fun wx=>Hid (AL wx wB.heap.size q.U (.slice (some ⟨g4,0,none⟩) n4 c4) (gs1.set a ⟨S,v1,I1,lv1,bef1,X⟩))∧Hid (wx.ownsMap Tryz.prog 3 (plainElem Tryz.prog 3) wB.heap.size k D')∧Hid (wx.heap[wr.heap.size]?=some (.cells #[.int .i64 yk,.slice (some ⟨g,0,none⟩) l c] 294 (0,0)))∧Hid (Fr [] wB wx))
    case first =>
     go_region_with (first | (go_at_call 175;refine(H126.out _ ?_).mono ?_;exact frz _ _ _ rfl rfl rfl rfl;rintro e w1 ⟨rfl,hf1⟩;have hf1':Fr [] wc w1:=⟨hf1.os,hf1.tape,hf1.output,hf1.size,hf1.block⟩;have HF3:=hid hf1';have m0:=hf1'.cell q0 List.not_mem_nil;have m1:=hf1'.cell b0 List.not_mem_nil;have m2:=hf1'.cell s3 List.not_mem_nil;have m3:=hf1'.froz s3 List.not_mem_nil f3;clear hf1 hf1') | (go_at_call 173;refine(H124.out _).mono ?_;rintro e w2 ⟨rfl,rfl⟩))
     all_goals (
      go_wp2
      go_meet
      have h5:=HA2.out.behind HD1.out HF2.out HF3.out HM2.out HB2.out (by decide) X
      exact⟨hid h5.1,hid h5.2.1,hid h5.2.2.1,hid h5.2.2.2⟩)
    case rest =>
     obtain⟨HA3,HM3,HB3,HF3⟩:=hcut;have HD3:=hid (show(gs1.set a ⟨S,v1,I1,lv1,bef1,X⟩)[a]?=some ⟨S,v1,I1,lv1,bef1,X⟩from List.getElem?_set_self (by rw[←HN4.out];exact ha4));have HN5:=hid (show n4=(gs1.set a ⟨S,v1,I1,lv1,bef1,X⟩).length by rw[List.length_set];exact HN4.out);have HSS:=hid (fun(y:SD)=>show(gs1.set a ⟨S,v1,I1,lv1,bef1,X⟩).set a y=gs1.set a y from List.set_set _);generalize gs1.set a ⟨S,v1,I1,lv1,bef1,X⟩=gs2 at HA3 HD3 HN5 HSS;have q1:=HA3.out.cell HD3.out HN5.out;dsimp only at q1;have e0:wc.cell? ⟨wr.heap.size,0,none⟩=some (.int .i64 yk):=by rw[cell_of_row _ _ 0 _ 294 (0,0) HB3.out];rfl
     have e1:wc.cell? ⟨wr.heap.size,1,none⟩=some (.slice (some ⟨g,0,none⟩) l c):=by rw[cell_of_row _ _ 1 _ 294 (0,0) HB3.out];rfl
     have H127:=hid (fun Z (hf:Fr [] wc Z)=>join_any q P cU lv Z wB.heap.size S v1 I1 (run rs k) lv1 bef1 X yk g l c (HQ.out.s.fr (HRP.out.fr.trans (HF3.out.trans hf)) List.not_mem_nil) ((HA3.out.sb a _ HD3.out).fr0 hf) (by rw[HLL.out];exact owns_rowN (owns_fr0 HH3.out (HF3.out.trans hf)) rfl) HLL.out (fun j hj=>by have h5:=(HRO.out.mem HKR.out (show nix (run rs k) j∈run rs k by rw[nix_of_get (by rw[←HLL.out];exact hj)];exact List.getElem_mem _)).1;rw[HK.out]at h5;exact h5) HLN.out hn (Nat.le_trans HF3.out.size hf.size) (by omega) hh2);clear H126 H124 q0 b0 b1 s3 f3 hg4l hbl hSl;go_upto_region 12 with fail
     go_cut []from 18 to 84 (fun wx=>∃v',Hid (AL wx wB.heap.size q.U (.slice (some ⟨g4,0,none⟩) n4 c4) (gs1.set a ⟨S,v',I1++run rs k,lv1,bef1,X⟩))∧Hid (wx.ownsMap Tryz.prog 3 (plainElem Tryz.prog 3) wB.heap.size k D')∧Hid (wx.heap[wr.heap.size]?=some (.cells #[.int .i64 yk,.slice (some ⟨g,0,none⟩) l c] 294 (0,0)))∧Hid (Fr [] wB wx))
     case first =>
      go_region_with (first | (go_at_call 176;refine(H127.out _ ?_).mono ?_;exact frz _ _ _ rfl rfl rfl rfl;rintro e w1 ⟨rfl,⟨v',hb,hl⟩,hf⟩;have HJ:=hid ((HA3.out.fr0 ((Fr.refl [] wc).drew)).joined HD3.out (HF3.out.drew) (owns_map_fr0 HM3.out ((Fr.refl [] wc).drew)) HB3.out (by decide) hb hl hf);clear hb hl hf))
      all_goals (
       go_wp2
       go_meet
       exact⟨v',hid (by rw[←HSS.out];exact HJ.out.1),hid HJ.out.2.1,hid HJ.out.2.2.1,hid HJ.out.2.2.2⟩)
     case rest =>
      obtain⟨v',HA4,HM4,HB4,HF4⟩:=hcut;have e2:wc.cell? ⟨wr.heap.size,0,none⟩=some (.int .i64 yk):=by rw[cell_of_row _ _ 0 _ 294 (0,0) HB4.out];rfl
      have e3:wc.cell? ⟨wr.heap.size,1,none⟩=some (.slice (some ⟨g,0,none⟩) l c):=by rw[cell_of_row _ _ 1 _ 294 (0,0) HB4.out];rfl
      have HQ4:=hid (HQ.out.fr (HRP.out.fr.trans HF4.out) List.not_mem_nil List.not_mem_nil);have e4:=HQ4.out.c1;have HLD:=hid (show Lev.partAt q.K q.n (lastN (run rs k))=leads q.K (run rs k) by rw[←HK.out,part_mate q.K _ (by rw[HK.out];exact HLT.out)];rfl);have H128:=hid (fun Z (hf:Fr [] wc Z)=>fn57_any yk g l c w.heap.size (run rs k) Z (by have h5:=owns_fr0 HH3.out (HF4.out.trans hf);rw[←HLL.out]at h5;exact h5) HLL.out hr0 hrl);have HLK2:=hid (fun Z (hf:Fr [] wc Z)=>(HQ4.out.fr hf List.not_mem_nil List.not_mem_nil).m.look_ok law3 Tryz.underlying258 (zero3 Z) (zd:=.lit (.int .i64 0)) (zp:=[]) (plainElem_int Tryz.underlying3 (by decide)) (keyOf_int_mk Tryz.underlying3 (a:=((lastN (run rs k):Nat):Int)) (WalkArith.wf_i64 (by have:=HLT.out;omega))));have HPI:=hid (HQ4.out.i.2 (lastN (run rs k)));rw[HLD.out]at HPI;obtain⟨ld,hld⟩:∃ld,ld=leads q.K (run rs k):=⟨_,rfl⟩;rw[←hld]at HPI;have HLDD:=hid hld;have HG4:=hid (HG2.out v');generalize gs1.set a ⟨S,v',I1++run rs k,lv1,bef1,X⟩=gs3 at HA4 HG4;clear H127 q1 e0 e1 hld HLD;go_upto_region 13 with fail
      go_cut [10,11]from 18 to 84 (fun v10 v11 wx=>∃c3:Int,v10=.int .i64 c3∧v11=.bool ld.isSome∧Hid (∀p,ld=some p→c3=(p:Nat))∧Hid (AL wx wB.heap.size q.U (.slice (some ⟨g4,0,none⟩) n4 c4) gs3)∧Hid (wx.ownsMap Tryz.prog 3 (plainElem Tryz.prog 3) wB.heap.size k D')∧Hid (Fr [] wB wx))
      case first =>
       go_region_with (first | (go_at_call 177;refine(H128.out _ ?_).mono ?_;exact frz _ _ _ rfl rfl rfl rfl;rintro e w1 ⟨rfl,hf1⟩;have hf1':Fr [] wc w1:=⟨hf1.os,hf1.tape,hf1.output,hf1.size,hf1.block⟩;have HF5:=hid hf1';have m4:=hf1'.cell e4 List.not_mem_nil;obtain⟨vv,pss,hrun,hv⟩:=HLK2.out w1 hf1';obtain⟨c3,rfl,hc,hwc⟩:=plainElem_int_inv Tryz.underlying3 hv;rw[HPI.out.1]at hrun;have HC3:=hid (fun p hp=>(show c3=(p:Nat) by have h5:=(congrArg Prod.fst hc).symm.trans (HPI.out.2 p hp _);simpa using h5));clear hf1 hf1' hv hc hwc))
       all_goals (
        go_wp2
        go_meet
        exact⟨c3,rfl,rfl,HC3,hid (HA4.out.fr0 HF5.out),hid (owns_map_fr0 HM4.out HF5.out),hid (HF4.out.trans HF5.out)⟩)
      case rest =>
       obtain⟨c3,rfl,rfl,HC3,HA5,HM5,HF5⟩:=hcut;cases ld with
       | none =>
         have HI5:=hid (show mapIs D' (dvTo q.K rs (k+1)).aw by rw[aw_none HLDD.out.symm];exact HI.out);clear HG2 HPI HC3;go_wp2;go_roundw
         case rel=>exact⟨k+1,gs3,D',by go_num,by omega,HA5,HG4,hid (HM5.out.mono (by omega)),HI5,HF5⟩
         case measure=>simp[intOf];omega
       | some p =>
         have hpl:=leads_lt HLDD.out.symm;rw[HK.out]at hpl;have HI5:=hid (show mapIs (D'.put (kN p) (.lit (.int .i64 (a:Nat)))) (dvTo q.K rs (k+1)).aw by rw[aw_some HLDD.out.symm,←HOW.out];exact HI.out.put p a);obtain rfl:=HC3.out p rfl;clear HG2 HPI HC3;go_wp2_with (at_mapUpdate;refine wpList_mapUpdate_own _ rfl _ _ _ 258 rfl 3 3 law3 Tryz.underlying258 _ wB.heap.size k D' rfl HM5.out (by unfold maxLen;omega) _ _ (kN p) rfl rfl (keyOf_int_mk Tryz.underlying3 (WalkArith.wf_i64 (by omega))) (.lit (.int .i64 (a:Nat))) [] (plainElem_int Tryz.underlying3 (WalkArith.wf_i64 (by omega))) ?_);intro w3 hown3 hgrow3;have HM6:=hid hown3;have HA6:=hid (HA5.out.mapped HM5.out hgrow3);have HF6:=hid (HF5.out.late (Fr.of_grown hgrow3) (fun b hb=>by rw[List.mem_singleton.1 hb];exact Nat.le_refl _));clear hown3 hgrow3;go_wp2;go_roundw
         case rel=>exact⟨k+1,gs3,_,by go_num,by omega,HA6,HG4,HM6,HI5,HF6⟩
         case measure=>simp[intOf];omega
  ·have hke:k=n:=by omega
   have HGZ:=hid (show gsOk q.K L lv gs (seqs q.K rs) by rw[←HDV.out,←HN.out,←hke];exact HG.out);have hkI:¬(k:Int)<(n:Int):=by omega
   clear hke HG;go_wp2;go_ret;exact⟨_,rfl,gs,wB.heap.size,HA.out,HGZ.out,hBw,HRP.out.fr.trans HF.out⟩
end Go.Proofs.YtnakejhohdbfdacGreatDoor

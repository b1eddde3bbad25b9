import Derived.Test.YtnakejhohdbfdaaGreatDoorXMm
import Derived.Test.YtnakejhohdbfdaaGreatDoorXLdG
import Derived.Lib.AppendZerosOnto
import Derived.Test.YtnakejhohdbfdaaGreatDoorXLdD
import Derived.Test.YtnakejhohdbfdaaGreatDoorXPrV
namespace Go.Proofs.YtnakejhohdbfdaaGreatDoor
open Go.RowKit Lev Lay Bnd
theorem ints64_set (l:List Int)(k:Nat)(x:Int):(ints64 l).set k (.int .i64 x)=ints64 (l.set k x):=by simp[ints64,List.map_set]
theorem wl_bound (s:ByteArray)(W:List Int)(h:∀i,0≤nth W i∧nth W i≤1073741824)(i j:Nat)(hj:j<(begs s i).length):0≤nth (wl s W i) j∧nth (wl s W i) j≤i * 1073741824:=by
 rw[wl_at s W i j hj];have hm:=begs_lt s i _ (nix_mem (l:=begs s i) (k:=j) hj);split
 ·rename_i h1
  have hm2:=begs_lt s i _ (nix_mem (l:=begs s i) (k:=j+1) h1);have h2:=wid_bound W 1073741824 h (nix (begs s i) j) (nix (begs s i) (j+1) - nix (begs s i) j);have h3:((nix (begs s i) (j+1) - nix (begs s i) j:Nat):Int) * 1073741824≤(i:Int) * 1073741824:=Int.mul_le_mul_of_nonneg_right (by omega) (by omega);rw[wid];exact⟨h2.1,by omega⟩
 ·have h2:=wid_bound W 1073741824 h (nix (begs s i) j) (i - nix (begs s i) j)
  have h3:((i - nix (begs s i) j:Nat):Int) * 1073741824≤(i:Int) * 1073741824:=Int.mul_le_mul_of_nonneg_right (by omega) (by omega);rw[wid];exact⟨h2.1,by omega⟩
set_option maxRecDepth 10000 in
set_option maxHeartbeats 4000000 in
theorem signs_any (s:ByteArray)(n:Nat)(b:Int)(vB:Value)(gW oW cW gT cT gL cL:Nat)(W Lv R:List Int)(w:World)(hs:s.size≤400)(hend:Dec.Ends s n)(hn:0<n)(ht:Cls.TabAt w 9 Tabs.kindTab)(hW:rowO w gW oW n W)(hWb:∀i,0≤nth W i∧nth W i≤1073741824)
 (hT:∀i,i<n→w.cell? ⟨gT,i * 3,none⟩=some (.int .i32 (nth R i))∧w.cell? ⟨gT,i * 3+1,none⟩=some (.int .i64 (Dec.pos s i:Nat))∧w.cell? ⟨gT,i * 3+2,none⟩=some (.int .i64 (Dec.pos s (i+1):Nat))) (hL:rowAt w gL n Lv) :
 Calls Tryz.prog 207 #[.agg #[.string s,.int .i64 b,.slice (some ⟨gW,oW,none⟩) n cW,vB],.slice (some ⟨gT,0,none⟩) n cT,.slice (some ⟨gL,0,none⟩) n cL] w fun e w'=>∃vs:Array Value,e=.returned (.agg vs)∧Hid (∃gB cB gV cV gX cX,vs=#[.slice (some ⟨gB,0,none⟩) (cn s n+1) cB,.slice (some ⟨gV,0,none⟩) (cn s n) cV,.slice (some ⟨gX,0,none⟩) (cn s n) cX]∧rowAt w' gB (cn s n+1) (bnd s n)∧rowAt w' gV (cn s n) (lvs s Lv n)∧rowAt w' gX (cn s n) (wl s W n)∧w.heap.size≤gB∧w.heap.size≤gV∧w.heap.size≤gX)∧Fr [] w w':=by
 obtain⟨i3,hi3,hz30,hz31,hz32⟩:=info_parts info3;obtain⟨i2,hi2,hz20,hz21,hz22⟩:=info_parts info2;have hn4:n≤400:=by have:=Dec.le_pos s n;have:=hend.1;omega
 obtain⟨nb,hnb⟩:∃nb,nb=(bnd s n).length:=⟨_,rfl⟩;have HNB:=hid hnb;have HNC:=hid (show nb=cn s n+1 by rw[hnb,bnd_length hend];unfold cn;have:=(bix_len s n).2.1;omega);have hnb1:0<nb:=by have:=HNC.out;omega
 have hnb2:nb≤401:=by rw[hnb,bnd_length hend];have:=(bix_len s n).1;omega
 clear hnb;obtain⟨w2,hw2⟩:∃w2,w2=(w.alloc (.cells #[.string s,.int .i64 b,.slice (some ⟨gW,oW,none⟩) n cW,vB] 35)).alloc (.cells #[.slice none 0 0,.slice none 0 0,.slice none 0 0] 163):=⟨_,rfl⟩;have HF2:=hid (show Fr [] w w2 by rw[hw2];exact((Fr.refl [] w).alloc _).alloc _);have HO1:=hid (show w2.heap[w.heap.size]?=some (.cells #[.string s,.int .i64 b,.slice (some ⟨gW,oW,none⟩) n cW,vB] 35 (0,0)) by rw[hw2];exact obj_fr (obj_new w _) ((Fr.refl [] _).alloc _) List.not_mem_nil);have hw2s:w2.heap.size=w.heap.size+2:=by rw[hw2];simp
 have HO2:=hid (show w2.heap[w.heap.size+1]?=some (.cells #[.slice none 0 0,.slice none 0 0,.slice none 0 0] 163 (0,0)) by
  have h:=obj_new (w.alloc (.cells #[.string s,.int .i64 b,.slice (some ⟨gW,oW,none⟩) n cW,vB] 35)) (.cells #[.slice none 0 0,.slice none 0 0,.slice none 0 0] 163)
  rw[World.size_alloc]at h;rw[hw2];exact h)
 have H194:=hid (Cls.fn25_any s w2 (by omega) (tab_fr ht HF2.out));have HW:=hid hW;have HWB:=hid hWb;have HT:=hid hT;have HL:=hid hL;have HE:=hid hend;have k0:=obj_cell HO1.out (i:=0) (v:=.string s) rfl;clear hW hWb hT hL hend ht;go_enter Tryz.func207,Tryz.ntmps207;go_wp2_with fail;rw[←hw2];refine H194.out.mono ?_;rintro e w3 ⟨n',v,hn',rfl,own,hb3⟩;obtain rfl:=Dec.ends_unique HE.out hn';have HF3:=hid (HF2.out.trans (Fr.of_below (S:=[]) hb3));have HO13:=hid (obj_fr HO1.out (Fr.of_below (S:=[]) hb3) List.not_mem_nil);have HO23:=hid (obj_fr HO2.out (Fr.of_below (S:=[]) hb3) List.not_mem_nil);rw[←HNB.out]at own;obtain⟨gB,cB,hv⟩:=owns_shape (by omega) own;subst hv;have HRB:=hid (show rowAt w3 gB nb (bnd s n)from fun j hj=>by rw[own.cellAt j (by omega),ints64_at (by rw[←HNB.out];exact hj)]);have hgB:=(owns_at own).2;have hgB0:=(owns_at own).1;clear own hb3 hn' H194 k0;have hw3s:w.heap.size+2≤w3.heap.size:=by have:=HF3.out.size;have:=obj_lt HO23.out;omega
 obtain⟨cb,hcb⟩:∃cb,cb=w3.heap.size:=⟨_,rfl⟩;have HCB:=hid hcb;clear hcb;go_wp2_with fail;go_loopw [16] (fun ii wr=>∃(i k:Nat) (vV vX:Value),ii=.int .i64 i∧i≤n∧Hid (k=(begs s i).length)∧Hid (wr.heap[w3.heap.size]?=some (.cells #[.slice (some ⟨gB,0,none⟩) nb cB,vV,vX] 163 (0,0)))∧Hid (wr.ownsRow (w3.heap.size+1) 3 1 vV k (ints64 (lvs s Lv i)))∧Hid (wr.ownsRow (w3.heap.size+1) 2 1 vX k (ints64 (wl s W i)))∧Hid (Fr [] w3 wr)) (fun ii _=>n - (intOf ii).toNat)
 case atStart=>exact⟨0,0,.slice none 0 0,.slice none 0 0,rfl,Nat.zero_le _,hid rfl,hid (obj_new w3 _),hid ⟨rfl,.inl ⟨rfl,rfl⟩⟩,hid ⟨rfl,.inl ⟨rfl,rfl⟩⟩,hid ((Fr.refl [] w3).alloc _)⟩
 case round =>
  obtain⟨i,k,vV,vX,rfl,hin,HK,HOC,HV,HX,HF⟩:=hrel;have HFw:=hid (HF3.out.trans HF.out);obtain⟨aV,cV,hvV⟩:=owns_slice HV.out;subst hvV;obtain⟨aX,cX,hvX⟩:=owns_slice HX.out;subst hvX;by_cases hil:i<n
  ·have hiI:(i:Int)<(n:Int):=by omega
   obtain⟨q0,q1,q2⟩:=HT.out i hil;have q0':=HFw.out.cell q0 List.not_mem_nil;have q1':=HFw.out.cell q1 List.not_mem_nil;have q2':=HFw.out.cell q2 List.not_mem_nil;have hkb:k<nb:=by rw[HK.out,HNB.out,bnd_length HE.out];exact begs_lt_bix hin hn
   have hkI:(k:Int)<(nb:Int):=by omega
   have b0:=HF.out.cell (HRB.out k hkb) List.not_mem_nil;have HBG:=hid (by have h:=beg_look (s:=s) HE.out hn hil;rw[←HK.out]at h;exact h);have c0:=obj_cell HOC.out (i:=0) (v:=.slice (some ⟨gB,0,none⟩) nb cB) rfl;have c1:=obj_cell HOC.out (i:=1) (v:=.slice aV k cV) rfl;have c2:=obj_cell HOC.out (i:=2) (v:=.slice aX k cX) rfl;have l0:=HL.out.fr HFw.out List.not_mem_nil i hil;clear q0 q1 q2;generalize nth R i=r0 at *;generalize Dec.pos s i=p0 at *;generalize Dec.pos s (i+1)=p1 at *;generalize nth (bnd s n) k=bk at *;have hgBl:=World.block_lt_of_cell? _ _ b0;have hcbl:=World.block_lt_of_cell? _ _ c0;have hgLl:=World.block_lt_of_cell? _ _ l0;dsimp only at hgBl hcbl hgLl;by_cases hbg:beg s i=true
   ·rw[hbg]at HBG
    have hpe:=HBG.out;go_wp2_with fail;go_quiet (fail);go_wp2_with fail;obtain⟨w5,hw5⟩:∃w5,w5=(wr.alloc (.cells #[.int .i32 r0,.int .i64 ((p0:Nat):Int),.int .i64 ((p1:Nat):Int)] 94)).drewN nq:=⟨_,rfl⟩;have HG5:=hid (show Fr [] wr w5 by rw[hw5];exact((Fr.refl [] wr).alloc _).trans (fr_drewN _ _));rw[←hw5];clear hw5 b0 c0 q0' q1' q2' hgBl hcbl hgLl;have HOC5:=hid (obj_fr HOC.out HG5.out List.not_mem_nil);have l5:=HG5.out.cell l0 List.not_mem_nil;have c15:=obj_cell HOC5.out (i:=1) (v:=.slice aV k cV) rfl;have f15:=obj_froz HOC5.out 1;have HV5:=hid (owns_fr0 HV.out HG5.out);have HX5:=hid (owns_fr0 HX.out HG5.out);have hcb5:=obj_lt HOC5.out;have hgL5:=World.block_lt_of_cell? _ _ l5;have hgLo:=World.block_lt_of_cell? _ _ (HL.out i hil);dsimp only at hgL5 hgLo;have HVG:=hid (fun g (hg:(Value.slice aV k cV).ownBlock=some g)=>(HV.out.lt g hg).1);clear l0 c1 c2;have HLY:=hid (lvs_yes (Lv:=Lv) hbg);generalize nth Lv i=lv at *
    have HKP:=hid (fun(w1' w':World) (hf:Fr [] w5 w1') (hg:w1'.grownBy w' (Value.slice aV k cV).ownBlock)=>show w'.heap[w3.heap.size]?=some (.cells #[.slice (some ⟨gB,0,none⟩) nb cB,.slice aV k cV,.slice aX k cX] 163 (0,0))∧w'.cell? ⟨gL,i,none⟩=some (.int .i64 lv)from
     ⟨(hg.block w3.heap.size (by have:=hf.size;omega) (fun e=>by have:=HVG.out _ e.symm;omega)).trans (obj_fr HOC5.out hf List.not_mem_nil),(World.cell?_of_block (a:=⟨gL,i,none⟩) (hg.block gL (by have:=hf.size;omega) (fun e=>by have:=HVG.out _ e.symm;omega))).trans (hf.cell l5 List.not_mem_nil)⟩)
    go_region_law (refine step_app rfl (.tmp 32) (.tmp 37) 22 rfl (w3.heap.size+1) 3 i3 _ 1 8 Tryz.underlying22 hi3 hz30 hz31 hz32 rfl (by decide) (.slice aV k cV) k (ints64 (lvs s Lv i)) ?q1 ?q2 ⟨w5.heap.size,0,none⟩ 1 1 [.int .i64 lv] ?q3 rfl ?q4 (one_cell _) (by unfold maxLen;omega) (by omega) ?q5 ?_;(case q1=>simp[Act.eval]);(case q2=>exact owns_fr0 HV5.out (((Fr.refl [] w5).drew).alloc _));(case q3=>simp[Act.eval]);(case q4=>exact news_at _ _ _ _ (by simp));(case q5=>simp;omega);intro v' w' hown hgrow;obtain⟨g',c',hv'⟩:=owns_shape (by omega) hown;subst hv';have HV6:=hid hown;have HG6:=hid hgrow;have HO6:=hid (HKP.out _ _ (((Fr.refl [] w5).drew).alloc _) hgrow).1;have c16:=obj_cell HO6.out (i:=1) (v:=.slice aV k cV) rfl;have f16:=obj_froz HO6.out 1;clear hown hgrow)
    all_goals (
     obtain⟨w6,hw6⟩:∃w6,w6=w'.setCell ⟨w3.heap.size,1,none⟩ (.slice (some ⟨g',0,none⟩) (k+1) c'):=⟨_,rfl⟩
     rw[←hw6]
     have HO7:=hid (show w6.heap[w3.heap.size]?=some (.cells #[.slice (some ⟨gB,0,none⟩) nb cB,.slice (some ⟨g',0,none⟩) (k+1) c',.slice aX k cX] 163 (0,0)) by rw[hw6];exact obj_set HO6.out 1 _)
     have HKS:=hid (show ∀(e:TypeId) (_:e≠163) g,some w3.heap.size=some g→∃cs t f,w'.heap[g]?=some (.cells cs t f)∧t≠e from fun e he g hv=>by cases hv;exact⟨_,_,_,HO6.out,fun e=>he e.symm⟩)
     have HV7:=hid (show w6.ownsRow (w3.heap.size+1) 3 1 (.slice (some ⟨g',0,none⟩) (k+1) c') (k+1) (ints64 (lvs s Lv (i+1))) by
      rw[HLY.out,←ints64_snoc,hw6];exact owns_kind HV6.out (grown_set (b:=w3.heap.size)) (HKS.out _ (by decide)))
     have HX7:=hid (show w6.ownsRow (w3.heap.size+1) 2 1 (.slice aX k cX) k (ints64 (wl s W i)) by
      rw[hw6]
      refine owns_kind (owns_kind (owns_fr0 HX5.out (((Fr.refl [] w5).drew).alloc _)) HG6.out (fun g hg=>?_)) (grown_set (b:=w3.heap.size)) (HKS.out _ (by decide))
      obtain⟨cs,t',f',h5,h6⟩:=owns_type (owns_fr0 HV5.out (((Fr.refl [] w5).drew).alloc (.cells #[.int .i64 lv] 3))) hg
      exact⟨cs,t',f',h5,by rw[h6];decide⟩)
     have HF7:=hid (show Fr [] w3 w6 by
      rw[hw6]
      exact(((HF.out.trans HG5.out).trans (((Fr.refl [] w5).drew).alloc (.cells #[.int .i64 lv] 3))).grown HG6.out (fun g hg=>by have:=HVG.out g hg;omega)).set_new (Nat.le_refl _))
     clear hw6 c15 f15 c16 f16 l5 hcb5 hgL5
     have c27:=obj_cell HO7.out (i:=2) (v:=.slice aX k cX) rfl
     have hcb7:=obj_lt HO7.out
     have HXG:=hid (fun g (hg:(Value.slice aX k cX).ownBlock=some g)=>(HX.out.lt g hg).1)
     have HO7a:=hid (fun(o:Obj)=>obj_fr HO7.out ((Fr.refl [] w6).alloc o) List.not_mem_nil)
     have hne7:w3.heap.size≠w6.heap.size:=by omega
     go_wp2_with (at_builtin;refine wpList_append_own _ rfl _ _ 49 rfl (w3.heap.size+1) 2 i2 _ 1 8 Tryz.underlying49 hi2 hz20 hz21 hz22 rfl (by decide) _ k (ints64 (wl s W i)) rfl ?own _ 1 1 [.int .i64 0] rfl rfl (news_at _ _ _ _ (by simp)) (one_cell _) (by unfold maxLen;omega) (by omega) ?szz ?_)
     case own=>exact HX7.out.alloc _
     case szz=>simp;omega
     intro v8 w8 hown8 hgrow8 hnil8
     obtain⟨g8,c8,hv8⟩:=owns_shape (by omega) hown8
     subst hv8
     have HXo:=hid hown8
     have HXg:=hid hgrow8
     have HO8:=hid (show w8.heap[w3.heap.size]?=some (.cells #[.slice (some ⟨gB,0,none⟩) nb cB,.slice (some ⟨g',0,none⟩) (k+1) c',.slice aX k cX] 163 (0,0))from(hgrow8.block w3.heap.size (by simp;omega) (fun e=>by have:=HXG.out _ e.symm;omega)).trans (HO7a.out _))
     have c28:=obj_cell HO8.out (i:=2) (v:=.slice aX k cX) rfl
     have f28:=obj_froz HO8.out 2
     clear hown8 hgrow8 hnil8 c27
     obtain⟨w9,hw9⟩:∃w9,w9=w8.setCell ⟨w3.heap.size,2,none⟩ (.slice (some ⟨g8,0,none⟩) (k+1) c8):=⟨_,rfl⟩
     have HO9:=hid (show w9.heap[w3.heap.size]?=some (.cells #[.slice (some ⟨gB,0,none⟩) nb cB,.slice (some ⟨g',0,none⟩) (k+1) c',.slice (some ⟨g8,0,none⟩) (k+1) c8] 163 (0,0)) by rw[hw9];exact obj_set HO8.out 2 _)
     have HKT:=hid (show ∀(e:TypeId) (_:e≠163) g,some w3.heap.size=some g→∃cs t f,w8.heap[g]?=some (.cells cs t f)∧t≠e from fun e he g hv=>by cases hv;exact⟨_,_,_,HO8.out,fun e=>he e.symm⟩)
     have HX9:=hid (show w9.ownsRow (w3.heap.size+1) 2 1 (.slice (some ⟨g8,0,none⟩) (k+1) c8) (k+1) (ints64 (wl s W i++[0])) by
      rw[←ints64_snoc,hw9];exact owns_kind HXo.out (grown_set (b:=w3.heap.size)) (HKT.out _ (by decide)))
     have HV9:=hid (show w9.ownsRow (w3.heap.size+1) 3 1 (.slice (some ⟨g',0,none⟩) (k+1) c') (k+1) (ints64 (lvs s Lv (i+1))) by
      rw[hw9]
      refine owns_kind (owns_kind (HV7.out.alloc _) HXg.out (fun g hg=>?_)) (grown_set (b:=w3.heap.size)) (HKT.out _ (by decide))
      obtain⟨cs,t',f',h5,h6⟩:=owns_type (HX7.out.alloc (.cells #[.int .i64 0] 2)) hg
      exact⟨cs,t',f',h5,by rw[h6];decide⟩)
     have HF9:=hid (show Fr [] w3 w9 by
      rw[hw9]
      exact((HF7.out.alloc (.cells #[.int .i64 0] 2)).grown HXg.out (fun g hg=>by have:=HXG.out g hg;omega)).set_new (Nat.le_refl _))
     have HW9:=hid hw9
     clear hw9
     go_wp2_with fail
     rw[←HW9.out]
     clear c28 f28
     have HFw9:=hid (HF3.out.trans HF9.out)
     have c29:=obj_cell HO9.out (i:=2) (v:=.slice (some ⟨g8,0,none⟩) (k+1) c8) rfl
     have hkl:k=(wl s W i).length:=by rw[wl_len];exact HK.out
     have HKL:=hid hkl
     clear hkl
     have x9:=HX9.out.cellAt k (by omega)
     rw[ints64_at (by rw[List.length_append,←HKL.out];simp),show nth (wl s W i++[0]) k=0 by rw[HKL.out];simp[nth]]at x9
     have xf9:=HX9.out.frozenAt k
     have m9:=obj_cell (obj_fr HO13.out HF9.out List.not_mem_nil) (i:=2) (v:=.slice (some ⟨gW,oW,none⟩) n cW) rfl
     have ww:=HW.out.fr HFw9.out List.not_mem_nil i hil
     have hwi:=HWB.out i
     have HWY:=hid (wl_yes (W:=W) hbg)
     generalize nth W i=wi at *
     have hk1:((k+1:Nat):Int) - 1=(k:Int):=by omega
     have hk2:(k:Int)+1 - 1=(k:Int):=by omega
     have hkk:(k:Int)<(k:Int)+1:=by omega
     have hwr1:IntKind.i64.wrap (0+wi)=wi:=by rw[IntKind.wrap_i64];omega
     have hwr2:IntKind.i64.wrap wi=wi:=by rw[IntKind.wrap_i64];omega
     go_region
     have hst:=HX9.out.stored k (.int .i64 wi)
     have HXZ:=hid (show(w9.setCell ⟨g8,k,none⟩ (.int .i64 wi)).drew.ownsRow (w3.heap.size+1) 2 1 (.slice (some ⟨g8,0,none⟩) (k+1) c8) (k+1) (ints64 (wl s W (i+1))) by
      rw[HWY.out,←HKL.out,Int.zero_add,←ints64_set];exact owns_fr0 hst.1 ((Fr.refl [] _).drew))
     have HVZ:=hid (show(w9.setCell ⟨g8,k,none⟩ (.int .i64 wi)).drew.ownsRow (w3.heap.size+1) 3 1 (.slice (some ⟨g',0,none⟩) (k+1) c') (k+1) (ints64 (lvs s Lv (i+1))) by
      refine owns_fr0 (owns_kind HV9.out hst.2 (fun g hg=>?_)) ((Fr.refl [] _).drew)
      cases hg
      obtain⟨cs,t',f',h5,h6⟩:=owns_type HX9.out (g:=g8) rfl
      exact⟨cs,t',f',h5,by rw[h6];decide⟩)
     have hg8:=(owns_at HX9.out).1
     have HOZ:=hid (obj_fr HO9.out (((Fr.of_grown hst.2).trans ((Fr.refl [g8] _).drew))) (fun h=>by have:=List.mem_singleton.1 h;omega))
     have HFZ:=hid (show Fr [] w3 (w9.setCell ⟨g8,k,none⟩ (.int .i64 wi)).drew from(HF9.out.set_new (by omega)).drew)
     have HKZ:=hid (show k+1=(begs s (i+1)).length by rw[begs_yes hbg,List.length_append,←HK.out];rfl)
     clear hst
     go_wp2
     go_roundw
     case rel=>exact⟨i+1,k+1,_,_,by go_num,by omega,HKZ,HOZ,HVZ,HXZ,HFZ⟩
     case measure=>simp[intOf];omega)
   ·have hbg':beg s i=false:=by cases h:beg s i with | false=>rfl | true=>exact absurd h hbg
    rw[hbg']at HBG;have hpe:=HBG.out;obtain⟨km,hkm⟩:∃km,k=km+1:=⟨k - 1,by have:=begs_some s (beg_pos hbg');rw[←HK.out]at this;omega⟩;subst hkm;obtain⟨gX,cX',hvX⟩:=owns_shape (by omega) HX.out;cases hvX;go_wp2_with fail;go_quiet (fail);go_wp2_with fail;obtain⟨w9,hw9⟩:∃w9,w9=(wr.alloc (.cells #[.int .i32 r0,.int .i64 ((p0:Nat):Int),.int .i64 ((p1:Nat):Int)] 94)).drewN nq:=⟨_,rfl⟩;have HG9:=hid (show Fr [] wr w9 by rw[hw9];exact((Fr.refl [] wr).alloc _).trans (fr_drewN _ _));rw[←hw9];clear hw9 b0 c0 c1 c2 q0' q1' q2' hgBl hcbl hgLl l0;have HO9:=hid (obj_fr HOC.out HG9.out List.not_mem_nil);have HX9:=hid (owns_fr0 HX.out HG9.out);have HV9:=hid (owns_fr0 HV.out HG9.out);have HF9:=hid (HF.out.trans HG9.out);have HFw9:=hid (HF3.out.trans HF9.out);have c29:=obj_cell HO9.out (i:=2) (v:=.slice (some ⟨gX,0,none⟩) (km+1) cX) rfl;have HKL:=hid (show km+1=(wl s W i).length by rw[wl_len];exact HK.out);have x9:=HX9.out.cellAt km (by omega);rw[ints64_at (by rw[←HKL.out];omega)]at x9;have xf9:=HX9.out.frozenAt km;have m9:=obj_cell (obj_fr HO13.out HF9.out List.not_mem_nil) (i:=2) (v:=.slice (some ⟨gW,oW,none⟩) n cW) rfl;have ww:=HW.out.fr HFw9.out List.not_mem_nil i hil;have hwi:=HWB.out i;have HWN:=hid (show wl s W (i+1)=(wl s W i).set km (nth (wl s W i) km+nth W i) by rw[wl_no hbg',←HKL.out];rfl);have hxb:=wl_bound s W HWB.out i km (by rw[←HK.out];omega);have hxc:nth (wl s W i) km≤429496729600:=by
     have h5:(i:Int) * 1073741824≤400 * 1073741824:=Int.mul_le_mul_of_nonneg_right (by omega) (by omega);omega
    have hxd:=hxb.1;clear hxb;generalize nth W i=wi at *;generalize nth (wl s W i) km=xk at *;have hk1:((km+1:Nat):Int) - 1=(km:Int):=by omega
    have hk2:(km:Int)+1 - 1=(km:Int):=by omega
    have hkk:(km:Int)<(km:Int)+1:=by omega
    have hwr1:IntKind.i64.wrap (xk+wi)=xk+wi:=by rw[IntKind.wrap_i64];omega
    go_region;have hst:=HX9.out.stored km (.int .i64 (xk+wi))
    have HXZ:=hid (show(w9.setCell ⟨gX,km,none⟩ (.int .i64 (xk+wi))).drew.ownsRow (w3.heap.size+1) 2 1 (.slice (some ⟨gX,0,none⟩) (km+1) cX) (km+1) (ints64 (wl s W (i+1))) by
     rw[HWN.out,←ints64_set];exact owns_fr0 hst.1 ((Fr.refl [] _).drew))
    have HVZ:=hid (show(w9.setCell ⟨gX,km,none⟩ (.int .i64 (xk+wi))).drew.ownsRow (w3.heap.size+1) 3 1 (.slice aV (km+1) cV) (km+1) (ints64 (lvs s Lv (i+1))) by
     rw[lvs_no hbg']
     refine owns_fr0 (owns_kind HV9.out hst.2 (fun g hg=>?_)) ((Fr.refl [] _).drew)
     cases hg
     obtain⟨cs,t',f',h5,h6⟩:=owns_type HX9.out (g:=gX) rfl
     exact⟨cs,t',f',h5,by rw[h6];decide⟩)
    have hg8:=(owns_at HX9.out).1;have HOZ:=hid (obj_fr HO9.out (((Fr.of_grown hst.2).trans ((Fr.refl [gX] _).drew))) (fun h=>by have:=List.mem_singleton.1 h;omega));have HFZ:=hid (show Fr [] w3 (w9.setCell ⟨gX,km,none⟩ (.int .i64 (xk+wi))).drew from(HF9.out.set_new (by omega)).drew);have HKZ:=hid (show km+1=(begs s (i+1)).length by rw[begs_no hbg',←HK.out]);clear hst;go_wp2;go_roundw
    case rel=>exact⟨i+1,km+1,_,_,by go_num,by omega,HKZ,HOZ,HVZ,HXZ,HFZ⟩
    case measure=>simp[intOf];omega
  ·obtain rfl:i=n:=by omega
   have hiI:¬(i:Int)<(i:Int):=by omega
   have HOR:=hid (obj_fr HO23.out HF.out List.not_mem_nil);have c0:=obj_cell HOC.out (i:=0) (v:=.slice (some ⟨gB,0,none⟩) nb cB) rfl;have c1:=obj_cell HOC.out (i:=1) (v:=.slice aV k cV) rfl;have c2:=obj_cell HOC.out (i:=2) (v:=.slice aX k cX) rfl;have r0:=obj_cell HOR.out (i:=0) (v:=.slice none 0 0) rfl;have r1:=obj_cell HOR.out (i:=1) (v:=.slice none 0 0) rfl;have r2:=obj_cell HOR.out (i:=2) (v:=.slice none 0 0) rfl;have rf0:=obj_froz HOR.out 0;have rf1:=obj_froz HOR.out 1;have rf2:=obj_froz HOR.out 2;have hne:w3.heap.size≠w.heap.size+1:=by omega
   have HKC:=hid (show k=cn s i by rw[cn_begs hn];exact HK.out);have hk0:0<k:=by have:=begs_some s hn;rw[←HK.out]at this;exact this
   obtain⟨gV,cV',hvV⟩:=owns_shape hk0 HV.out;cases hvV;obtain⟨gX,cX',hvX⟩:=owns_shape hk0 HX.out;cases hvX;have HEND:=hid (show(((wr.setCell ⟨w.heap.size+1,0,none⟩ (.slice (some ⟨gB,0,none⟩) nb cB)).setCell ⟨w.heap.size+1,1,none⟩ (.slice (some ⟨gV,0,none⟩) k cV)).setCell ⟨w.heap.size+1,2,none⟩ (.slice (some ⟨gX,0,none⟩) k cX)).heap[w.heap.size+1]?=some (.cells #[.slice (some ⟨gB,0,none⟩) nb cB,.slice (some ⟨gV,0,none⟩) k cV,.slice (some ⟨gX,0,none⟩) k cX] 163 (0,0))from obj_set (obj_set (obj_set HOR.out 0 _) 1 _) 2 _);have HFE:=hid (show Fr [w.heap.size+1] wr (((wr.setCell ⟨w.heap.size+1,0,none⟩ (.slice (some ⟨gB,0,none⟩) nb cB)).setCell ⟨w.heap.size+1,1,none⟩ (.slice (some ⟨gV,0,none⟩) k cV)).setCell ⟨w.heap.size+1,2,none⟩ (.slice (some ⟨gX,0,none⟩) k cX))from((((Fr.refl [w.heap.size+1] wr).set (List.mem_singleton.2 rfl) _).set (List.mem_singleton.2 rfl) _).set (List.mem_singleton.2 rfl) _));go_wp2_with fail;have hgBn:gB≠w.heap.size+1:=by have:=hgB0;omega
   refine bodyPost_ret (results_cell_row (t:=163) (fr:=(0,0)) rfl _ _ (w.heap.size+1) _ _ rfl HEND.out Tryz.underlying163 rfl (by kernel_rfl)) rfl ?_;have hgV:=(owns_at HV.out).1;have hgX:=(owns_at HX.out).1;refine⟨_,rfl,hid ⟨gB,cB,gV,cV,gX,⟨cX,by rw[←HKC.out,show k+1=nb by have:=HNC.out;have:=HKC.out;omega]⟩,?_,?_,?_,by omega,by omega,by omega⟩,(((HFw.out.mono (fun _ h _=>absurd h List.not_mem_nil):Fr [w.heap.size+1] w wr).trans HFE.out).mono (fun x hx hlt=>by have:=List.mem_singleton.1 hx;omega))⟩
   ·rw[←HNC.out];exact(HRB.out.fr HF.out List.not_mem_nil).fr HFE.out (fun h=>hgBn (List.mem_singleton.1 h))
   ·intro j hj
    refine HFE.out.cell ?_ (fun h=>by have:=List.mem_singleton.1 h;omega);rw[HV.out.cellAt j (by have:=HKC.out;omega),ints64_at (by rw[lvs_len,←HK.out];have:=HKC.out;omega)]
   ·intro j hj
    refine HFE.out.cell ?_ (fun h=>by have:=List.mem_singleton.1 h;omega);rw[HX.out.cellAt j (by have:=HKC.out;omega),ints64_at (by rw[wl_len,←HK.out];have:=HKC.out;omega)]
theorem trails_any (c:Int)(w:World) :
 Calls Tryz.prog 228 #[.int .i64 c] w fun e w'=>e=.returned (.bool (trail c))∧w'=w:=by
 have HT:=hid (show trail c=((c == 12) || ((ini c || c == 22) || gone c)) by unfold trail;cases (c == 12) <;> cases ini c <;> cases (c == 22) <;> cases gone c <;> rfl);obtain⟨R,hR⟩:∃R,R=trail c:=⟨_,rfl⟩;rw[←hR]at HT ⊢;have H1:=hid (fun X:World=>fn89_any c X);have H2:=hid (fun X:World=>fn76_any c X);clear hR;generalize (ini c || c == 22)=p at *;generalize gone c=q at *;by_cases h:c=12
 ·have hb:(c == 12)=true:=by simp[h]
  rw[hb]at HT;go_enter Tryz.func228,Tryz.ntmps228;go_wp2_with fail;go_ret;exact⟨by rw[HT.out];rfl,rfl⟩
 ·have hb:(c == 12)=false:=by simp[h]
  rw[hb]at HT;cases p
  ·go_enter Tryz.func228,Tryz.ntmps228
   go_wp2_with (first | (go_at_call 188;refine(H1.out _).mono ?_;rintro e w1 ⟨rfl,rfl⟩) | (go_at_call 158;refine(H2.out _).mono ?_;rintro e w1 ⟨rfl,rfl⟩));go_ret;exact⟨by rw[HT.out];simp,rfl⟩
  ·go_enter Tryz.func228,Tryz.ntmps228
   go_wp2_with (first | (go_at_call 188;refine(H1.out _).mono ?_;rintro e w1 ⟨rfl,rfl⟩) | (go_at_call 158;refine(H2.out _).mono ?_;rintro e w1 ⟨rfl,rfl⟩));go_ret;exact⟨by rw[HT.out];simp,rfl⟩
theorem bnd_lt {s:ByteArray}{n:Nat}(h:Dec.Ends s n){i j:Nat}(hij:i<j)(hj:j<(bix s n).length):nth (bnd s n) i<nth (bnd s n) j:=by
 rw[bnd_nth h (by omega),bnd_nth h hj];have:=Dec.pos_mono s _ _ (nix_lt (bix_sorted s n) hij hj);omega
theorem nth_mem {l:List Int}{k:Nat}(h:k<l.length):nth l k∈l:=by
 rw[nth,List.getElem?_eq_getElem h];exact List.getElem_mem _
theorem cidx_bnd {s:ByteArray}{n:Nat}(h:Dec.Ends s n){k:Nat}(hk:k<(bix s n).length):cidx (bnd s n) (nth (bnd s n) k)=k:=by
 have hl:=bnd_length h;obtain⟨h1,h2⟩:=cidx_at (rises_bnd h) (x:=nth (bnd s n) k) (by simpa using nth_mem (l:=bnd s n) (by omega));rw[←nth_getD]at h2
 rcases Nat.lt_trichotomy (cidx (bnd s n) (nth (bnd s n) k)) k with h3 | h3 | h3
 ·have:=bnd_lt h h3 hk;omega
 ·exact h3
 ·have:=bnd_lt h h3 (by omega);omega
def edL (s:ByteArray)(Br:List Int):List Int:=0 :: (Br++[((s.size:Nat):Int)])
theorem edL_len (s:ByteArray)(Br:List Int):(edL s Br).length=Br.length+2:=by simp[edL]
theorem edL_at {s:ByteArray}{n:Nat}(h:Dec.Ends s n){Br:List Int}(E:Edges s n Br){k:Nat}(hk:k≤Br.length+1):nth (edL s Br) k=nth (bnd s n) (eiOf s n Br k):=by
 have hc:eiOf s n Br k<(bix s n).length:=by
  have h8:=E.le k hk;have h9:=(bix_len s n).2.1;have:cn s n<(bix s n).length:=by { unfold cn;omega };unfold eiOf;omega
 rw[bnd_nth h hc]
 rcases Nat.eq_zero_or_pos k with h0 | h0
 ·subst h0
  rw[show eiOf s n Br 0=0 from E.e0,bix_zero];simp[nth,edL,Dec.pos]
 ·obtain⟨j,rfl⟩:∃j,k=j+1:=⟨k - 1,by omega⟩
  rcases Nat.lt_or_eq_of_le (show j≤Br.length by omega)with h1 | h1
  ·rw[show((Dec.pos s (nix (bix s n) (eiOf s n Br (j+1))):Nat):Int)=nth Br j from E.at_ j h1]
   simp[nth,edL,List.getElem?_append_left h1]
  ·subst h1
   rw[show eiOf s n Br (Br.length+1)=cn s n from E.eN,bix_last];simp[nth,edL];exact congrArg Int.ofNat h.1.symm
theorem edL_cidx {s:ByteArray}{n:Nat}(h:Dec.Ends s n){Br:List Int}(E:Edges s n Br){k:Nat}(hk:k≤Br.length+1):cidx (bnd s n) (nth (edL s Br) k)=eiOf s n Br k:=by
 rw[edL_at h E hk];refine cidx_bnd h ?_;have h8:=E.le k hk;have h9:=(bix_len s n).2.1;have:cn s n<(bix s n).length:=by { unfold cn;omega };unfold eiOf;omega
theorem xsum_congr {f g:Nat→Int}{o:List Nat}:∀k,(∀j,j<k→f (nix o j)=g (nix o j))→xsum f o k=xsum g o k
 | 0,_=>rfl
 | k+1,h=>by rw[xsum,xsum,xsum_congr k (fun j hj=>h j (by omega)),h k (by omega)]
theorem xs_congr {f g:Nat→Int}{o:List Nat}{k:Nat}(h:∀j,j<k→f (nix o j)=g (nix o j)):xs f o k=xs g o k:=by
 rw[xs,xs];refine List.map_congr_left (fun j hj=>?_);exact xsum_congr j (fun i hi=>h i (by have:=List.mem_range.1 hj;omega))
theorem lines_same {s:ByteArray}{n:Nat}(h:Dec.Ends s n)(hn:0<n){Br:List Int}(E:Edges s n Br)(bs:Int)(W Lv:List Int)(hL:∀i,i<n→nth Lv i=evOf s n bs Br i):lnsP (bnd s n) (lvs s Lv n) (wl s W n) (edL s Br) (Br.length+1)=lns s n bs W Br (Br.length+1):=by
 rw[lnsP,lns];refine List.map_congr_left (fun j hj=>?_);have hj:=List.mem_range.1 hj;have hb:=E.le (j+1) (by omega);have hab:=E.mono j (j+1) (by omega) (by omega);have hlv:∀k,k<cn s n→nth (lvs s Lv n) k=evOf s n bs Br (nix (bix s n) k):=fun k hk=>by
  have hk':k<(begs s n).length:=by rw[←cn_begs hn];exact hk
  rw[lvs_at hk',←bix_at hn hk',hL];have:=nix_lt (bix_sorted s n) hk (by have:=(bix_len s n).2.1;unfold cn;omega);rw[bix_last]at this;exact this
 unfold lnP lnOf;rw[edL_cidx h E (show j≤Br.length+1 by omega),edL_cidx h E (show j+1≤Br.length+1 by omega)];have hlen:=(bix_len s n).2.1;have hcn:cn s n<(bix s n).length:=by unfold cn;omega
 have ho:ordD (fun t=>nth (lvs s Lv n) (eiOf s n Br j+t)) (eiOf s n Br (j+1) - eiOf s n Br j)=ordD (fun t=>evOf s n bs Br (nix (bix s n) (eiOf s n Br j+t))) (eiOf s n Br (j+1) - eiOf s n Br j) :=
  ordD_congr (fun t ht=>hlv _ (by unfold eiOf at *;omega))
 dsimp only;rw[ho,edL_at h E (show j≤Br.length+1 by omega),edL_at h E (show j+1≤Br.length+1 by omega),bnd_nth h (by unfold eiOf;omega),bnd_nth h (by unfold eiOf;omega)]
 congr 1
 refine xs_congr (fun t ht=>?_);have ht':t<(ordD (fun t=>evOf s n bs Br (nix (bix s n) (eiOf s n Br j+t))) (eiOf s n Br (j+1) - eiOf s n Br j)).length:=by rw[ordD_len];exact ht
 rw[nix_map ht'];have hlt:=ordD_lt _ _ _ (nix_mem ht');exact wl_cw hn W (by unfold eiOf at *;omega)
set_option maxRecDepth 10000 in
set_option maxHeartbeats 4000000 in
theorem grow_nil (n:Nat)(w:World)(h0:0<n)(hn:n≤10000):Calls Tryz.prog 226 #[.slice none 0 0,.int .i64 n] w fun e w'=>∃g c,e=.returned (.slice (some ⟨g,0,none⟩) 0 c)∧w'.ownsRow w.heap.size 3 1 (.slice (some ⟨g,0,none⟩) 0 c) 0 []∧Fr [] w w':=by
 have tb:Tryz.t3.bytes=8:=by kernel_rfl
 have hfit:=growslice_fits (old:=0) h0 (show n * 8≤140737488355328 by omega);have hA:¬(281474976710656:Int)<(n:Int) * (Tryz.t3.bytes:Int):=by rw[tb];omega
 have hB:¬ 281474976710656<Builtin.nextslicecap n 0 * Tryz.t3.bytes:=by rw[tb];omega
 have hge:=grownCap_ge w n 0 3;have hle:=grownCap_le_maxLen w n 0 3 (by unfold maxLen;omega)
 have HO:=hid (show ∀cs:Array Value,cs.size=grownCap w n 0 3→((w.alloc (.cells cs 3)).drew).ownsRow w.heap.size 3 1 (.slice (some ⟨w.heap.size,0,none⟩) 0 (grownCap w n 0 3)) 0 []from fun cs hcs =>
  ⟨rfl,.inr ⟨w.heap.size,_,cs,rfl,Nat.le_refl _,obj_new w _,Nat.zero_le _,hle,by omega,by simp⟩⟩)
 have h1:¬((n:Int)<0):=by omega
 have h4:(0:Int)<(n:Int):=by omega
 have h5:¬n=0:=by omega
 have HGE:=hid hge;clear tb hfit hge hle;go_enter Tryz.func226,Tryz.ntmps226;go_wp2;go_ret;exact⟨_,_,rfl,HO.out _ (by rw[Array.size_append,size_zeroCells,size_zeroCells];have:=HGE.out;show n * 1+(grownCap w n 0 3 - n) * 1=grownCap w n 0 3;omega),frA w _⟩
def slAd (w:World)(v:Value)(l:List Int):Prop:=∃a c,v=.slice a l.length c∧((a=none∧c=0∧l.length=0)∨∃ad:Addr,a=some ad∧∀i,i<l.length→w.cell? (ad.add i)=some (.int .i64 (nth l i)))
theorem cell_spot {w:World}{a:Addr}{v:Value}(h:w.cell? a=some v):a=⟨a.block,a.off,none⟩:=by
 obtain⟨b,o,sp⟩:=a;cases sp with
 | none=>rfl
 | some x =>
   unfold World.cell? at h;split at h
   ·simp at h
   ·cases h
theorem fr_cell' {w w':World}{a:Addr}{v:Value}(hf:Fr [] w w')(h:w.cell? a=some v):w'.cell? a=some v:=by
 have e:=cell_spot h;rw[e]at h ⊢;exact hf.cell h List.not_mem_nil
theorem slAd.fr {w w':World}{v:Value}{l:List Int}(h:slAd w v l)(hf:Fr [] w w'):slAd w' v l:=by
 obtain⟨a,c,h1,h2⟩:=h;refine⟨a,c,h1,h2.imp id ?_⟩;rintro ⟨ad,h3,h4⟩;exact⟨ad,h3,fun i hi=>fr_cell' hf (h4 i hi)⟩
theorem slAd.at {w:World}{v:Value}{l:List Int}(h:slAd w v l):slAt w v l:=by
 obtain⟨a,c,h1,h2⟩:=h;refine⟨a,c,h1,?_⟩
 rcases h2 with⟨_,_,h3⟩ | ⟨ad,rfl,h4⟩
 ·exact .inl h3
 ·by_cases h0:l.length=0
  ·exact .inl h0
  ·have e:=cell_spot (h4 0 (by omega))
   have e0:ad.add 0=ad:=rfl;rw[e0]at e;obtain⟨b,o,sp⟩:=ad;simp only[Addr.mk.injEq,true_and]at e;subst e;exact .inr ⟨b,o,rfl,fun i hi=>by have:=h4 i hi;rwa [Addr.add_lit]at this⟩
def catTo (L:Nat→List Int):Nat→List Int
 | 0=>[]
 | k+1=>catTo L k++L k
theorem catTo_mono (L:Nat→List Int):∀ {k j:Nat},k≤j→(catTo L k).length≤(catTo L j).length
 | k,0,h=>by obtain rfl:k=0:=by omega
             exact Nat.le_refl _
 | k,j+1,h=>by
   rcases Nat.lt_or_eq_of_le h with h1 | h1
   ·have:=catTo_mono L (k:=k) (j:=j) (by omega);rw[catTo,List.length_append];omega
   ·rw[h1];exact Nat.le_refl _
theorem ints64_one (l:List Int):∀u∈ints64 l,u.oneCell'=true:=by
 intro u hu;obtain⟨x,_,rfl⟩:=List.mem_map.1 hu;rfl
set_option maxRecDepth 10000 in
set_option maxHeartbeats 4000000 in
theorem concat_any (L:Nat→List Int)(H:Nat→Value)(gs cs m:Nat)(w:World)(hm:m≤10)(hc:∀i,i<m→w.cell? ⟨gs,i,none⟩=some (H i))(hs:∀i,i<m→slAd w (H i) (L i))(h0:0<(catTo L m).length)(hl:(catTo L m).length≤6000) :
 Calls Tryz.prog 205 #[.slice (some ⟨gs,0,none⟩) m cs] w fun e w'=>∃g c,e=.returned (.slice (some ⟨g,0,none⟩) (catTo L m).length c)∧w'.ownsRow w.heap.size 3 1 (.slice (some ⟨g,0,none⟩) (catTo L m).length c) (catTo L m).length (ints64 (catTo L m))∧Fr [] w w':=by
 obtain⟨i0,hi,hz0,hz1,hz2⟩:=info_parts info3;have HC:=hid hc;have HS:=hid hs;have HG:=hid (fun X=>grow_nil (catTo L m).length X h0 (by omega));have HCM:=hid (fun k (hk:k≤m)=>catTo_mono L hk);obtain⟨N,hN⟩:∃N,N=(catTo L m).length:=⟨_,rfl⟩;rw[←hN]at h0 hl HG HCM ⊢;have HN:=hid hN;clear hc hs hN;go_enter Tryz.func205,Tryz.ntmps205;go_wp2_with fail;go_loop [3,11] (fun zz kk=>∃k:Nat,kk=.int .i64 k∧k≤m∧zz=.int .i64 ((catTo L k).length:Nat)) (fun _ kk=>m - (intOf kk).toNat)
 case atStart=>exact⟨0,rfl,Nat.zero_le _,rfl⟩
 case round =>
  obtain⟨k,rfl,hkm,rfl⟩:=hrel;by_cases hkl:k<m
  ·have hkI:(k:Int)<(m:Int):=by omega
   have d0:=HC.out k hkl;obtain⟨a,c,hH,_⟩:=HS.out k hkl;rw[hH]at d0;have h1:=HCM.out (k+1) (by omega);have HNX:=hid (show(catTo L (k+1)).length=(catTo L k).length+(L k).length by rw[catTo,List.length_append]);rw[HNX.out]at h1;generalize (catTo L k).length=lk at *;generalize (L k).length=ll at *;have hz:¬((lk:Int)+(ll:Int))<0:=by omega
   clear hH;go_wp2;go_round
   case rel=>exact⟨k+1,by go_num,by omega,by rw[HNX.out];go_num⟩
   case measure=>simp[intOf];omega
  ·obtain rfl:k=m:=by omega
   rw[←HN.out];go_wp2_with fail;refine(HG.out _).mono ?_;rintro e w1 ⟨g1,c1,rfl,own1,hf1⟩;have HO1:=hid own1;have HF1:=hid hf1;clear own1 hf1 HG;go_wp2_with fail;go_loopw [6,27] (fun vv kk wr=>∃(t g c:Nat),kk=.int .i64 t∧t≤k∧vv=.slice (some ⟨g,0,none⟩) (catTo L t).length c∧Hid (wr.ownsRow w.heap.size 3 1 (.slice (some ⟨g,0,none⟩) (catTo L t).length c) (catTo L t).length (ints64 (catTo L t)))∧Hid (Fr [] w wr)) (fun _ kk _=>k - (intOf kk).toNat)
   case atStart=>exact⟨0,g1,c1,rfl,Nat.zero_le _,rfl,HO1,HF1⟩
   case round =>
    obtain⟨t,g,c,rfl,htk,rfl,HO,HF⟩:=hrel;by_cases htl:t<k
    ·have htI:(t:Int)<(k:Int):=by omega
     have d0:=HF.out.cell (HC.out t htl) List.not_mem_nil;obtain⟨a,ch,hH,hx⟩:=(HS.out t htl).fr HF.out;rw[hH]at d0;have h1:=HCM.out (t+1) (by omega);have HNX:=hid (show(catTo L (t+1)).length=(catTo L t).length+(L t).length by rw[catTo,List.length_append]);rw[HNX.out]at h1;have hsz:=HF.out.size;have HLN:=hid (show(ints64 (L t)).length=(L t).length * 1 by simp);have HIS:=hid (show ints64 (catTo L (t+1))=ints64 (catTo L t)++ints64 (L t) by rw[catTo];simp);have HCAT:=hid (show(L t).length=0→catTo L (t+1)=catTo L t from fun h=>by rw[catTo,List.length_eq_zero_iff.1 h,List.append_nil]);generalize hlk:(catTo L t).length=lk at *;generalize hll:(L t).length=ll at *;clear hH hlk hll
     rcases hx with⟨rfl,rfl,rfl⟩ | ⟨ad,rfl,hcells⟩
     ·have HO2:=hid (show wr.ownsRow w.heap.size 3 1 (.slice (some ⟨g,0,none⟩) lk c) lk (ints64 (catTo L t))from HO.out)
      go_wp2_with (at_builtin;refine wpList_append_own_none rfl _ _ 22 rfl w.heap.size 3 i0 1 Tryz.underlying22 hi _ lk _ rfl HO2.out rfl ?_);go_wp2;go_roundw
      case rel=>exact⟨t+1,g,c,by go_num,by omega,by rw[HNX.out,Nat.add_zero],hid (by rw[HNX.out,Nat.add_zero,HCAT.out rfl];exact HO.out),HF⟩
      case measure=>simp[intOf];omega
     ·have HNW:=hid (show ∀j u,(ints64 (L t))[j]?=some u→wr.cell? (ad.add j)=some u from fun j u hu=>by
       have hj:=(List.getElem?_eq_some_iff.1 hu).1
       rw[HLN.out,Nat.mul_one]at hj
       have hj2:j<(L t).length:=by have:=(List.getElem?_eq_some_iff.1 hu).1;simpa using this
       rw[ints64_at hj2]at hu
       rw[hcells j hj];exact hu)
      clear hcells;go_wp2_with (at_builtin;refine wpList_append_own _ rfl _ _ 22 rfl w.heap.size 3 i0 _ 1 8 Tryz.underlying22 hi hz0 hz1 hz2 rfl (by decide) _ lk _ rfl HO.out ad ll _ (ints64 (L t)) rfl HLN.out HNW.out (ints64_one _) (by unfold maxLen;omega) (by omega) hsz ?_);intro v' w3 own3 hgrow hnil;have hnn:v'≠.slice none 0 0:=hnil;obtain⟨g',c',hv'⟩:∃g' c',v'=.slice (some ⟨g',0,none⟩) (lk+ll) c':=by
       rcases own3.2 with⟨h5,_⟩ | ⟨g',c',cur,h5,_⟩
       ·exact absurd h5 hnn
       ·exact⟨g',c',h5⟩
      subst hv';have HF3:=hid (HF.out.grown hgrow (fun x h=>(HO.out.lt x h).1));have HO3:=hid own3;clear own3 hgrow hnil hnn;go_wp2;go_roundw
      case rel=>exact⟨t+1,g',c',by go_num,by omega,by rw[HNX.out],hid (by rw[HNX.out,HIS.out];exact HO3.out),HF3⟩
      case measure=>simp[intOf];omega
    ·obtain rfl:t=k:=by omega
     rw[←HN.out]at HO ⊢;go_wp2;go_ret;exact⟨g,c,rfl,HO.out,HF.out⟩
theorem ei_lt {s:ByteArray}{n:Nat}{Br:List Int}(E:Edges s n Br){k:Nat}(hk:k≤Br.length+1):eiOf s n Br k<(bix s n).length:=by
 have h8:=E.le k hk;have h9:=(bix_len s n).2.1;have:cn s n<(bix s n).length:=by { unfold cn;omega }
 unfold eiOf;omega
theorem edL_lt {s:ByteArray}{n:Nat}(h:Dec.Ends s n){Br:List Int}(E:Edges s n Br){i j:Nat}(hij:i<j)(hj:j≤Br.length+1):nth (edL s Br) i<nth (edL s Br) j:=by
 rw[edL_at h E (by omega),edL_at h E hj];exact bnd_lt h (E.mono i j hij hj) (ei_lt E hj)
theorem edL_rises {s:ByteArray}{n:Nat}(h:Dec.Ends s n){Br:List Int}(E:Edges s n Br):Rises (edL s Br) ((s.size:Nat):Int):=by
 refine⟨List.pairwise_iff_getElem.2 (fun i j hi hj hij=>?_),rfl,?_⟩
 ·have h1:=edL_lt h E hij (by rw[edL_len]at hj;omega)
  rw[nth,nth,List.getElem?_eq_getElem hi,List.getElem?_eq_getElem hj]at h1;exact h1
 ·rw[edL_len]
  simp[edL]
theorem pos_inj {s:ByteArray}{i j:Nat}(h:Dec.pos s i=Dec.pos s j):i=j:=by
 rcases Nat.lt_trichotomy i j with h1 | h1 | h1
 ·have:=Dec.pos_mono s i j h1;omega
 ·exact h1
 ·have:=Dec.pos_mono s j i h1;omega
theorem edL_has {s:ByteArray}{n:Nat}(h:Dec.Ends s n){Br:List Int}(E:Edges s n Br)(j:Nat):(edL s Br).contains ((Dec.pos s j:Nat):Int)=edg (bix s n) (bnd s n) Br j:=by
 have h0:∀k,k≤Br.length+1→nth (edL s Br) k=((Dec.pos s (nix (bix s n) (eiOf s n Br k)):Nat):Int):=fun k hk=>by
  rw[edL_at h E hk,bnd_nth h (ei_lt E hk)]
 rw[Bool.eq_iff_iff,List.contains_iff_mem,edg,List.any_eq_true];constructor
 ·intro hm
  obtain⟨k,hk,he⟩:=List.mem_iff_getElem.1 hm;have hk2:k<Br.length+2:=by rw[edL_len]at hk;exact hk
  refine⟨k,List.mem_range.2 hk2,decide_eq_true ?_⟩;have h1:=h0 k (by omega);rw[nth,List.getElem?_eq_getElem hk,Option.getD_some,he]at h1;exact(pos_inj (Int.ofNat.inj h1)).symm
 ·rintro ⟨k,hk,he⟩
  have hk2:=List.mem_range.1 hk;have h1:=h0 k (by omega);rw[show nix (bix s n) (eiOf s n Br k)=j from of_decide_eq_true he]at h1;rw[←h1];exact nth_mem (by rw[edL_len];omega)
theorem cat_edL (s:ByteArray)(Br:List Int)(L:Nat→List Int)(h0:L 0=[0])(h1:L 1=Br)(h2:L 2=[((s.size:Nat):Int)]):catTo L 3=edL s Br:=by
 simp[catTo,edL,h0,h1,h2]
theorem nth_over {l:List Int}{i:Nat}(h:l.length≤i):nth l i=0:=by rw[nth,List.getElem?_eq_none h];rfl
theorem lvs_in {s:ByteArray}{Lv:List Int}{n:Nat}(h:∀i,0≤nth Lv i∧nth Lv i≤1000)(k:Nat):0≤nth (lvs s Lv n) k∧nth (lvs s Lv n) k≤1000:=by
 by_cases hk:k<(begs s n).length
 ·rw[lvs_at hk];exact h _
 ·rw[nth_over (by rw[lvs_len];omega)];decide
end Go.Proofs.YtnakejhohdbfdaaGreatDoor
namespace Go.Proofs.YtnakejhohdbfdaaGreatDoor
open Go.RowKit Lev Lay Bnd Go.Shelf
attribute [local go_sem] Oper.semAt_some
def rnAt (w:World)(g n:Nat)(R:List Int)(p:Nat→Nat):Prop:=∀i,i<n→w.cell? ⟨g,i * 3,none⟩=some (.int .i32 (nth R i))∧w.cell? ⟨g,i * 3+1,none⟩=some (.int .i64 (p i:Nat))∧w.cell? ⟨g,i * 3+2,none⟩=some (.int .i64 (p (i+1):Nat))
theorem rnAt.fr {S:List Nat}{w w':World}{g n:Nat}{R:List Int}{p:Nat→Nat}(h:rnAt w g n R p)(hf:Fr S w w')(hg:g ∉ S):rnAt w' g n R p:=fun i hi =>
 ⟨hf.cell (h i hi).1 hg,hf.cell (h i hi).2.1 hg,hf.cell (h i hi).2.2 hg⟩
structure VT (gT n cT:Nat)(R:List Int)(p:Nat→Nat)(bx:Nat)(W:World):Prop where
 t:rnAt W gT n R p
 b:W.cell? ⟨bx,0,none⟩=some (.slice (some ⟨gT,0,none⟩) n cT)
set_option maxRecDepth 100000 in
set_option maxHeartbeats 4000000 in
theorem back_rn (gT n cT:Nat)(R:List Int)(p:Nat→Nat)(bx:Nat)(hn:n≤1000000)(m l:Nat)(V':Nat→World→Prop)(hVB:∀j A,V' j A→VT gT n cT R p bx A)
 (hY:∀j (x:Nat) A,V' j A→(j=x+1∧x<n)→YieldAt Fence.wide (m - 1) Tryz.prog l #[.int .i64 x,.agg #[.int .i32 (nth R x),.int .i64 (p x:Nat),.int .i64 (p (x+1):Nat)]] A fun e B=>e=.returned (.bool true)∧V' x B) (W:World) (h0:V' n W) :
 CallsIn Fence.wide m Tryz.prog 248 (#[.func (.yield l) #[] #[]]++#[.pointer (some ⟨bx,0,none⟩)]) W fun e B=>(∃v,e=.returned v)∧V' 0 B:=by
 have b:=(hVB _ _ h0).b;have HVB:=hid hVB;have HY:=hid hY;have H0:=hid h0;clear hVB hY h0;refine callsIn_of_wp Tryz.func248 rfl trivial ?_ rfl;simp only[Tryz.ntmps248,List.size_toArray,List.length_cons,List.length_nil,Nat.reduceAdd,Nat.reduceSub,Array.replicate_succ,Array.replicate_zero,List.push_toArray,List.append_toArray,List.nil_append,List.cons_append];have hw0:IntKind.i64.wrap ((n:Int) - 1)=(n:Int) - 1:=by rw[IntKind.wrap_i64];omega
 gi_wp2;clear b hw0;gi_loopw [3] (fun a wr=>∃(j:Nat),a=.int .i64 ((j:Int) - 1)∧j≤n∧Hid (V' j wr)) (fun a _=>(intOf a+1).toNat)
 case atStart=>exact⟨n,rfl,Nat.le_refl _,H0⟩
 case round =>
  obtain⟨j,rfl,hj,HV⟩:=hrel
  rcases Nat.eq_zero_or_pos j with hj0 | hj0
  ·subst hj0
   gi_wp2;go_end0;exact⟨⟨_,rfl⟩,HV.out⟩
  ·obtain⟨x,rfl⟩:∃x,j=x+1:=⟨j - 1,by omega⟩
   have hx:((x+1:Nat):Int) - 1=(x:Int):=by omega
   rw[hx];have b:=(HVB.out _ _ HV.out).b;obtain⟨t0,t1,t2⟩:=(HVB.out _ _ HV.out).t x (by omega);have hxi:(x:Int)<(n:Int):=by omega
   have hx0:(0:Int)≤(x:Int):=by omega
   have hw0:IntKind.i64.wrap ((x:Int) - 1)=(x:Int) - 1:=by rw[IntKind.wrap_i64];omega
   obtain⟨fn,tmps,assign,body,hyy,hR⟩:=HY.out (x+1) x wr HV.out ⟨rfl,by omega⟩;generalize nth R x=r at *;generalize p x=p0 at *;generalize p (x+1)=p1 at *;clear HVB HY hx;gi_wp2;refine⟨fun hd=>absurd hd (by decide),hR.mono ?_⟩;rintro e W3 ⟨rfl,hV3⟩;have HV3:=hid hV3;clear hV3;gi_wp2;go_roundw
   case rel=>exact⟨x,by simp,by omega,HV3⟩
   case measure=>simp[intOf]
theorem fn198_any (gT n c:Nat)(w:World):Calls Tryz.prog 227 #[.slice (some ⟨gT,0,none⟩) n c] w fun e w' =>
 e=.returned (.func (.func 248) #[] #[.pointer (some ⟨w.heap.size,0,none⟩)])∧w'=w.alloc (.cells #[.slice (some ⟨gT,0,none⟩) n c] 29):=by
 go_enter Tryz.func227,Tryz.ntmps227;go_wp2;go_ret;exact⟨by simp,rfl⟩
end Go.Proofs.YtnakejhohdbfdaaGreatDoor

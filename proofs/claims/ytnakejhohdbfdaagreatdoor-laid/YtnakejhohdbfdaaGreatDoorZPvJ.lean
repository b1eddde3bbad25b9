import Derived.Test.YtnakejhohdbfdaaGreatDoorZPvI
namespace Go.Proofs.YtnakejhohdbfdaaGreatDoor
open Go.RowKit Lev Lay Bnd
theorem ints64_set (l:List Int) (k:Nat) (x:Int):(ints64 l).set k (.int .i64 x)=ints64 (l.set k x):=by simp [ints64,List.map_set]
theorem wl_bound (s:ByteArray) (W:List Int) (h:∀ i,0 ≤ nth W i∧nth W i ≤ 1073741824) (i j:Nat) (hj:j < (begs s i).length):0 ≤ nth (wl s W i) j∧nth (wl s W i) j ≤ i * 1073741824:=by
 rw [wl_at s W i j hj]
 have hm:=begs_lt s i _ (nix_mem (l:=begs s i) (k:=j) hj)
 split
 ·rename_i h1
  have hm2:=begs_lt s i _ (nix_mem (l:=begs s i) (k:=j + 1) h1)
  have h2:=wid_bound W 1073741824 h (nix (begs s i) j) (nix (begs s i) (j + 1) - nix (begs s i) j)
  have h3:((nix (begs s i) (j + 1) - nix (begs s i) j:Nat):Int) * 1073741824 ≤ (i:Int) * 1073741824:=Int.mul_le_mul_of_nonneg_right (by omega) (by omega)
  rw [wid];exact ⟨h2.1,by omega⟩
 ·have h2:=wid_bound W 1073741824 h (nix (begs s i) j) (i - nix (begs s i) j)
  have h3:((i - nix (begs s i) j:Nat):Int) * 1073741824 ≤ (i:Int) * 1073741824:=Int.mul_le_mul_of_nonneg_right (by omega) (by omega)
  rw [wid];exact ⟨h2.1,by omega⟩
set_option maxRecDepth 10000 in
set_option maxHeartbeats 4000000 in
theorem signs_any (s:ByteArray) (n:Nat) (b:Int) (vB:Value) (gW oW cW gT cT gL cL:Nat) (W Lv R:List Int) (w:World) (hs:s.size ≤ 400) (hend:Dec.Ends s n) (hn:0 < n) (ht:Cls.TabAt w 9 Tabs.kindTab) (hW:rowO w gW oW n W) (hWb:∀ i,0 ≤ nth W i∧nth W i ≤ 1073741824)
 (hT:∀ i,i < n→w.cell? ⟨gT,i * 3,none⟩=some (.int .i32 (nth R i))∧w.cell? ⟨gT,i * 3 + 1,none⟩=some (.int .i64 (Dec.pos s i:Nat))∧w.cell? ⟨gT,i * 3 + 2,none⟩=some (.int .i64 (Dec.pos s (i + 1):Nat))) (hL:rowAt w gL n Lv) :
 Calls Tryz.prog 207 #[.agg #[.string s,.int .i64 b,.slice (some ⟨gW,oW,none⟩) n cW,vB],.slice (some ⟨gT,0,none⟩) n cT,.slice (some ⟨gL,0,none⟩) n cL] w fun e w'=>∃ vs:Array Value,e=.returned (.agg vs)∧Hid (∃ gB cB gV cV gX cX,vs=#[.slice (some ⟨gB,0,none⟩) (cn s n + 1) cB,.slice (some ⟨gV,0,none⟩) (cn s n) cV,.slice (some ⟨gX,0,none⟩) (cn s n) cX]∧rowAt w' gB (cn s n + 1) (bnd s n)∧rowAt w' gV (cn s n) (lvs s Lv n)∧rowAt w' gX (cn s n) (wl s W n)∧w.heap.size ≤ gB∧w.heap.size ≤ gV∧w.heap.size ≤ gX)∧Fr [] w w':=by
 obtain ⟨i3,hi3,hz30,hz31,hz32⟩:=info_parts info3
 obtain ⟨i2,hi2,hz20,hz21,hz22⟩:=info_parts info2
 have hn4:n ≤ 400:=by have:=Dec.le_pos s n;have:=hend.1;omega
 obtain ⟨nb,hnb⟩:∃ nb,nb=(bnd s n).length:=⟨_,rfl⟩
 have HNB:=hid hnb
 have HNC:=hid (show nb=cn s n + 1 by rw [hnb,bnd_length hend];unfold cn;have:=(bix_len s n).2.1;omega)
 have hnb1:0 < nb:=by have:=HNC.out;omega
 have hnb2:nb ≤ 401:=by rw [hnb,bnd_length hend];have:=(bix_len s n).1;omega
 clear hnb
 obtain ⟨w2,hw2⟩:∃ w2,w2=(w.alloc (.cells #[.string s,.int .i64 b,.slice (some ⟨gW,oW,none⟩) n cW,vB] 35)).alloc (.cells #[.slice none 0 0,.slice none 0 0,.slice none 0 0] 163):=⟨_,rfl⟩
 have HF2:=hid (show Fr [] w w2 by rw [hw2];exact ((Fr.refl [] w).alloc _).alloc _)
 have HO1:=hid (show w2.heap[w.heap.size]?=some (.cells #[.string s,.int .i64 b,.slice (some ⟨gW,oW,none⟩) n cW,vB] 35 (0,0)) by rw [hw2];exact obj_fr (obj_new w _) ((Fr.refl [] _).alloc _) List.not_mem_nil)
 have hw2s:w2.heap.size=w.heap.size + 2:=by rw [hw2];simp
 have HO2:=hid (show w2.heap[w.heap.size + 1]?=some (.cells #[.slice none 0 0,.slice none 0 0,.slice none 0 0] 163 (0,0)) by
  have h:=obj_new (w.alloc (.cells #[.string s,.int .i64 b,.slice (some ⟨gW,oW,none⟩) n cW,vB] 35)) (.cells #[.slice none 0 0,.slice none 0 0,.slice none 0 0] 163)
  rw [World.size_alloc] at h;rw [hw2];exact h)
 have H194:=hid (Cls.fn25_any s w2 (by omega) (tab_fr ht HF2.out))
 have HW:=hid hW
 have HWB:=hid hWb
 have HT:=hid hT
 have HL:=hid hL
 have HE:=hid hend
 have k0:=obj_cell HO1.out (i:=0) (v:=.string s) rfl
 clear hW hWb hT hL hend ht
 go_enter Tryz.func207,Tryz.ntmps207
 go_wp2_with fail
 rw [← hw2]
 refine H194.out.mono ?_
 rintro e w3 ⟨n',v,hn',rfl,own,hb3⟩
 obtain rfl:=Dec.ends_unique HE.out hn'
 have HF3:=hid (HF2.out.trans (Fr.of_below (S:=[]) hb3))
 have HO13:=hid (obj_fr HO1.out (Fr.of_below (S:=[]) hb3) List.not_mem_nil)
 have HO23:=hid (obj_fr HO2.out (Fr.of_below (S:=[]) hb3) List.not_mem_nil)
 rw [← HNB.out] at own
 obtain ⟨gB,cB,hv⟩:=owns_shape (by omega) own
 subst hv
 have HRB:=hid (show rowAt w3 gB nb (bnd s n) from fun j hj=>by rw [own.cellAt j (by omega),ints64_at (by rw [← HNB.out];exact hj)])
 have hgB:=(owns_at own).2
 have hgB0:=(owns_at own).1
 clear own hb3 hn' H194 k0
 have hw3s:w.heap.size + 2 ≤ w3.heap.size:=by have:=HF3.out.size;have:=obj_lt HO23.out;omega
 obtain ⟨cb,hcb⟩:∃ cb,cb=w3.heap.size:=⟨_,rfl⟩
 have HCB:=hid hcb
 clear hcb
 go_wp2_with fail
 go_loopw [16] (fun ii wr=>∃ (i k:Nat) (vV vX:Value),ii=.int .i64 i∧i ≤ n∧Hid (k=(begs s i).length)∧Hid (wr.heap[w3.heap.size]?=some (.cells #[.slice (some ⟨gB,0,none⟩) nb cB,vV,vX] 163 (0,0)))∧Hid (wr.ownsRow (w3.heap.size + 1) 3 1 vV k (ints64 (lvs s Lv i)))∧Hid (wr.ownsRow (w3.heap.size + 1) 2 1 vX k (ints64 (wl s W i)))∧Hid (Fr [] w3 wr)) (fun ii _=>n - (intOf ii).toNat)
 case atStart=>exact ⟨0,0,.slice none 0 0,.slice none 0 0,rfl,Nat.zero_le _,hid rfl,hid (obj_new w3 _),hid ⟨rfl,.inl ⟨rfl,rfl⟩⟩,hid ⟨rfl,.inl ⟨rfl,rfl⟩⟩,hid ((Fr.refl [] w3).alloc _)⟩
 case round =>
  obtain ⟨i,k,vV,vX,rfl,hin,HK,HOC,HV,HX,HF⟩:=hrel
  have HFw:=hid (HF3.out.trans HF.out)
  obtain ⟨aV,cV,hvV⟩:=owns_slice HV.out
  subst hvV
  obtain ⟨aX,cX,hvX⟩:=owns_slice HX.out
  subst hvX
  by_cases hil:i < n
  ·have hiI:(i:Int) < (n:Int):=by omega
   obtain ⟨q0,q1,q2⟩:=HT.out i hil
   have q0':=HFw.out.cell q0 List.not_mem_nil
   have q1':=HFw.out.cell q1 List.not_mem_nil
   have q2':=HFw.out.cell q2 List.not_mem_nil
   have hkb:k < nb:=by rw [HK.out,HNB.out,bnd_length HE.out];exact begs_lt_bix hin hn
   have hkI:(k:Int) < (nb:Int):=by omega
   have b0:=HF.out.cell (HRB.out k hkb) List.not_mem_nil
   have HBG:=hid (by have h:=beg_look (s:=s) HE.out hn hil;rw [← HK.out] at h;exact h)
   have c0:=obj_cell HOC.out (i:=0) (v:=.slice (some ⟨gB,0,none⟩) nb cB) rfl
   have c1:=obj_cell HOC.out (i:=1) (v:=.slice aV k cV) rfl
   have c2:=obj_cell HOC.out (i:=2) (v:=.slice aX k cX) rfl
   have l0:=HL.out.fr HFw.out List.not_mem_nil i hil
   clear q0 q1 q2
   generalize nth R i=r0 at *
   generalize Dec.pos s i=p0 at *
   generalize Dec.pos s (i + 1)=p1 at *
   generalize nth (bnd s n) k=bk at *
   have hgBl:=World.block_lt_of_cell? _ _ b0
   have hcbl:=World.block_lt_of_cell? _ _ c0
   have hgLl:=World.block_lt_of_cell? _ _ l0
   dsimp only at hgBl hcbl hgLl
   by_cases hbg:beg s i=true
   ·rw [hbg] at HBG
    have hpe:=HBG.out
    go_wp2_with fail
    go_quiet (fail)
    go_wp2_with fail
    obtain ⟨w5,hw5⟩:∃ w5,w5=(wr.alloc (.cells #[.int .i32 r0,.int .i64 ((p0:Nat):Int),.int .i64 ((p1:Nat):Int)] 94)).drewN nq:=⟨_,rfl⟩
    have HG5:=hid (show Fr [] wr w5 by rw [hw5];exact ((Fr.refl [] wr).alloc _).trans (fr_drewN _ _))
    rw [← hw5]
    clear hw5 b0 c0 q0' q1' q2' hgBl hcbl hgLl
    have HOC5:=hid (obj_fr HOC.out HG5.out List.not_mem_nil)
    have l5:=HG5.out.cell l0 List.not_mem_nil
    have c15:=obj_cell HOC5.out (i:=1) (v:=.slice aV k cV) rfl
    have f15:=obj_froz HOC5.out 1
    have HV5:=hid (owns_fr0 HV.out HG5.out)
    have HX5:=hid (owns_fr0 HX.out HG5.out)
    have hcb5:=obj_lt HOC5.out
    have hgL5:=World.block_lt_of_cell? _ _ l5
    have hgLo:=World.block_lt_of_cell? _ _ (HL.out i hil)
    dsimp only at hgL5 hgLo
    have HVG:=hid (fun g (hg:(Value.slice aV k cV).ownBlock=some g)=>(HV.out.lt g hg).1)
    clear l0 c1 c2
    have HLY:=hid (lvs_yes (Lv:=Lv) hbg)
    generalize nth Lv i=lv at *
    have HKP:=hid (fun (w1' w':World) (hf:Fr [] w5 w1') (hg:w1'.grownBy w' (Value.slice aV k cV).ownBlock)=>show w'.heap[w3.heap.size]?=some (.cells #[.slice (some ⟨gB,0,none⟩) nb cB,.slice aV k cV,.slice aX k cX] 163 (0,0))∧w'.cell? ⟨gL,i,none⟩=some (.int .i64 lv) from
     ⟨(hg.block w3.heap.size (by have:=hf.size;omega) (fun e=>by have:=HVG.out _ e.symm;omega)).trans (obj_fr HOC5.out hf List.not_mem_nil),(World.cell?_of_block (a:=⟨gL,i,none⟩) (hg.block gL (by have:=hf.size;omega) (fun e=>by have:=HVG.out _ e.symm;omega))).trans (hf.cell l5 List.not_mem_nil)⟩)
    go_region_law (refine step_app rfl (.tmp 32) (.tmp 37) 22 rfl (w3.heap.size + 1) 3 i3 _ 1 8 Tryz.underlying22 hi3 hz30 hz31 hz32 rfl (by decide) (.slice aV k cV) k (ints64 (lvs s Lv i)) ?q1 ?q2 ⟨w5.heap.size,0,none⟩ 1 1 [.int .i64 lv] ?q3 rfl ?q4 (one_cell _) (by unfold maxLen;omega) (by omega) ?q5 ?_;(case q1=>simp [Act.eval]);(case q2=>exact owns_fr0 HV5.out (((Fr.refl [] w5).drew).alloc _));(case q3=>simp [Act.eval]);(case q4=>exact news_at _ _ _ _ (by simp));(case q5=>simp;omega);intro v' w' hown hgrow;obtain ⟨g',c',hv'⟩:=owns_shape (by omega) hown;subst hv';have HV6:=hid hown;have HG6:=hid hgrow;have HO6:=hid (HKP.out _ _ (((Fr.refl [] w5).drew).alloc _) hgrow).1;have c16:=obj_cell HO6.out (i:=1) (v:=.slice aV k cV) rfl;have f16:=obj_froz HO6.out 1;clear hown hgrow)
    all_goals (
     obtain ⟨w6,hw6⟩:∃ w6,w6=w'.setCell ⟨w3.heap.size,1,none⟩ (.slice (some ⟨g',0,none⟩) (k + 1) c'):=⟨_,rfl⟩
     rw [← hw6]
     have HO7:=hid (show w6.heap[w3.heap.size]?=some (.cells #[.slice (some ⟨gB,0,none⟩) nb cB,.slice (some ⟨g',0,none⟩) (k + 1) c',.slice aX k cX] 163 (0,0)) by rw [hw6];exact obj_set HO6.out 1 _)
     have HKS:=hid (show ∀ (e:TypeId) (_:e ≠ 163) g,some w3.heap.size=some g→∃ cs t f,w'.heap[g]?=some (.cells cs t f)∧t ≠ e from fun e he g hv=>by cases hv;exact ⟨_,_,_,HO6.out,fun e=>he e.symm⟩)
     have HV7:=hid (show w6.ownsRow (w3.heap.size + 1) 3 1 (.slice (some ⟨g',0,none⟩) (k + 1) c') (k + 1) (ints64 (lvs s Lv (i + 1))) by
      rw [HLY.out,← ints64_snoc,hw6];exact owns_kind HV6.out (grown_set (b:=w3.heap.size)) (HKS.out _ (by decide)))
     have HX7:=hid (show w6.ownsRow (w3.heap.size + 1) 2 1 (.slice aX k cX) k (ints64 (wl s W i)) by
      rw [hw6]
      refine owns_kind (owns_kind (owns_fr0 HX5.out (((Fr.refl [] w5).drew).alloc _)) HG6.out (fun g hg=>?_)) (grown_set (b:=w3.heap.size)) (HKS.out _ (by decide))
      obtain ⟨cs,t',f',h5,h6⟩:=owns_type (owns_fr0 HV5.out (((Fr.refl [] w5).drew).alloc (.cells #[.int .i64 lv] 3))) hg
      exact ⟨cs,t',f',h5,by rw [h6];decide⟩)
     have HF7:=hid (show Fr [] w3 w6 by
      rw [hw6]
      exact (((HF.out.trans HG5.out).trans (((Fr.refl [] w5).drew).alloc (.cells #[.int .i64 lv] 3))).grown HG6.out (fun g hg=>by have:=HVG.out g hg;omega)).set_new (Nat.le_refl _))
     clear hw6 c15 f15 c16 f16 l5 hcb5 hgL5
     have c27:=obj_cell HO7.out (i:=2) (v:=.slice aX k cX) rfl
     have hcb7:=obj_lt HO7.out
     have HXG:=hid (fun g (hg:(Value.slice aX k cX).ownBlock=some g)=>(HX.out.lt g hg).1)
     have HO7a:=hid (fun (o:Obj)=>obj_fr HO7.out ((Fr.refl [] w6).alloc o) List.not_mem_nil)
     have hne7:w3.heap.size ≠ w6.heap.size:=by omega
     go_wp2_with (at_builtin;refine wpList_append_own _ rfl _ _ 49 rfl (w3.heap.size + 1) 2 i2 _ 1 8 Tryz.underlying49 hi2 hz20 hz21 hz22 rfl (by decide) _ k (ints64 (wl s W i)) rfl ?own _ 1 1 [.int .i64 0] rfl rfl (news_at _ _ _ _ (by simp)) (one_cell _) (by unfold maxLen;omega) (by omega) ?szz ?_)
     case own=>exact HX7.out.alloc _
     case szz=>simp;omega
     intro v8 w8 hown8 hgrow8 hnil8
     obtain ⟨g8,c8,hv8⟩:=owns_shape (by omega) hown8
     subst hv8
     have HXo:=hid hown8
     have HXg:=hid hgrow8
     have HO8:=hid (show w8.heap[w3.heap.size]?=some (.cells #[.slice (some ⟨gB,0,none⟩) nb cB,.slice (some ⟨g',0,none⟩) (k + 1) c',.slice aX k cX] 163 (0,0)) from (hgrow8.block w3.heap.size (by simp;omega) (fun e=>by have:=HXG.out _ e.symm;omega)).trans (HO7a.out _))
     have c28:=obj_cell HO8.out (i:=2) (v:=.slice aX k cX) rfl
     have f28:=obj_froz HO8.out 2
     clear hown8 hgrow8 hnil8 c27
     obtain ⟨w9,hw9⟩:∃ w9,w9=w8.setCell ⟨w3.heap.size,2,none⟩ (.slice (some ⟨g8,0,none⟩) (k + 1) c8):=⟨_,rfl⟩
     have HO9:=hid (show w9.heap[w3.heap.size]?=some (.cells #[.slice (some ⟨gB,0,none⟩) nb cB,.slice (some ⟨g',0,none⟩) (k + 1) c',.slice (some ⟨g8,0,none⟩) (k + 1) c8] 163 (0,0)) by rw [hw9];exact obj_set HO8.out 2 _)
     have HKT:=hid (show ∀ (e:TypeId) (_:e ≠ 163) g,some w3.heap.size=some g→∃ cs t f,w8.heap[g]?=some (.cells cs t f)∧t ≠ e from fun e he g hv=>by cases hv;exact ⟨_,_,_,HO8.out,fun e=>he e.symm⟩)
     have HX9:=hid (show w9.ownsRow (w3.heap.size + 1) 2 1 (.slice (some ⟨g8,0,none⟩) (k + 1) c8) (k + 1) (ints64 (wl s W i ++ [0])) by
      rw [← ints64_snoc,hw9];exact owns_kind HXo.out (grown_set (b:=w3.heap.size)) (HKT.out _ (by decide)))
     have HV9:=hid (show w9.ownsRow (w3.heap.size + 1) 3 1 (.slice (some ⟨g',0,none⟩) (k + 1) c') (k + 1) (ints64 (lvs s Lv (i + 1))) by
      rw [hw9]
      refine owns_kind (owns_kind (HV7.out.alloc _) HXg.out (fun g hg=>?_)) (grown_set (b:=w3.heap.size)) (HKT.out _ (by decide))
      obtain ⟨cs,t',f',h5,h6⟩:=owns_type (HX7.out.alloc (.cells #[.int .i64 0] 2)) hg
      exact ⟨cs,t',f',h5,by rw [h6];decide⟩)
     have HF9:=hid (show Fr [] w3 w9 by
      rw [hw9]
      exact ((HF7.out.alloc (.cells #[.int .i64 0] 2)).grown HXg.out (fun g hg=>by have:=HXG.out g hg;omega)).set_new (Nat.le_refl _))
     have HW9:=hid hw9
     clear hw9
     go_wp2_with fail
     rw [← HW9.out]
     clear c28 f28
     have HFw9:=hid (HF3.out.trans HF9.out)
     have c29:=obj_cell HO9.out (i:=2) (v:=.slice (some ⟨g8,0,none⟩) (k + 1) c8) rfl
     have hkl:k=(wl s W i).length:=by rw [wl_len];exact HK.out
     have HKL:=hid hkl
     clear hkl
     have x9:=HX9.out.cellAt k (by omega)
     rw [ints64_at (by rw [List.length_append,← HKL.out];simp),show nth (wl s W i ++ [0]) k=0 by rw [HKL.out];simp [nth]] at x9
     have xf9:=HX9.out.frozenAt k
     have m9:=obj_cell (obj_fr HO13.out HF9.out List.not_mem_nil) (i:=2) (v:=.slice (some ⟨gW,oW,none⟩) n cW) rfl
     have ww:=HW.out.fr HFw9.out List.not_mem_nil i hil
     have hwi:=HWB.out i
     have HWY:=hid (wl_yes (W:=W) hbg)
     generalize nth W i=wi at *
     have hk1:((k + 1:Nat):Int) - 1=(k:Int):=by omega
     have hk2:(k:Int) + 1 - 1=(k:Int):=by omega
     have hkk:(k:Int) < (k:Int) + 1:=by omega
     have hwr1:IntKind.i64.wrap (0 + wi)=wi:=by rw [IntKind.wrap_i64];omega
     have hwr2:IntKind.i64.wrap wi=wi:=by rw [IntKind.wrap_i64];omega
     go_region
     have hst:=HX9.out.stored k (.int .i64 wi)
     have HXZ:=hid (show (w9.setCell ⟨g8,k,none⟩ (.int .i64 wi)).drew.ownsRow (w3.heap.size + 1) 2 1 (.slice (some ⟨g8,0,none⟩) (k + 1) c8) (k + 1) (ints64 (wl s W (i + 1))) by
      rw [HWY.out,← HKL.out,Int.zero_add,← ints64_set];exact owns_fr0 hst.1 ((Fr.refl [] _).drew))
     have HVZ:=hid (show (w9.setCell ⟨g8,k,none⟩ (.int .i64 wi)).drew.ownsRow (w3.heap.size + 1) 3 1 (.slice (some ⟨g',0,none⟩) (k + 1) c') (k + 1) (ints64 (lvs s Lv (i + 1))) by
      refine owns_fr0 (owns_kind HV9.out hst.2 (fun g hg=>?_)) ((Fr.refl [] _).drew)
      cases hg
      obtain ⟨cs,t',f',h5,h6⟩:=owns_type HX9.out (g:=g8) rfl
      exact ⟨cs,t',f',h5,by rw [h6];decide⟩)
     have hg8:=(owns_at HX9.out).1
     have HOZ:=hid (obj_fr HO9.out (((Fr.of_grown hst.2).trans ((Fr.refl [g8] _).drew))) (fun h=>by have:=List.mem_singleton.1 h;omega))
     have HFZ:=hid (show Fr [] w3 (w9.setCell ⟨g8,k,none⟩ (.int .i64 wi)).drew from (HF9.out.set_new (by omega)).drew)
     have HKZ:=hid (show k + 1=(begs s (i + 1)).length by rw [begs_yes hbg,List.length_append,← HK.out];rfl)
     clear hst
     go_wp2
     go_roundw
     case rel=>exact ⟨i + 1,k + 1,_,_,by go_num,by omega,HKZ,HOZ,HVZ,HXZ,HFZ⟩
     case measure=>simp [intOf];omega)
   ·have hbg':beg s i=false:=by cases h:beg s i with | false=>rfl | true=>exact absurd h hbg
    rw [hbg'] at HBG
    have hpe:=HBG.out
    obtain ⟨km,hkm⟩:∃ km,k=km + 1:=⟨k - 1,by have:=begs_some s (beg_pos hbg');rw [← HK.out] at this;omega⟩
    subst hkm
    obtain ⟨gX,cX',hvX⟩:=owns_shape (by omega) HX.out
    cases hvX
    go_wp2_with fail
    go_quiet (fail)
    go_wp2_with fail
    obtain ⟨w9,hw9⟩:∃ w9,w9=(wr.alloc (.cells #[.int .i32 r0,.int .i64 ((p0:Nat):Int),.int .i64 ((p1:Nat):Int)] 94)).drewN nq:=⟨_,rfl⟩
    have HG9:=hid (show Fr [] wr w9 by rw [hw9];exact ((Fr.refl [] wr).alloc _).trans (fr_drewN _ _))
    rw [← hw9]
    clear hw9 b0 c0 c1 c2 q0' q1' q2' hgBl hcbl hgLl l0
    have HO9:=hid (obj_fr HOC.out HG9.out List.not_mem_nil)
    have HX9:=hid (owns_fr0 HX.out HG9.out)
    have HV9:=hid (owns_fr0 HV.out HG9.out)
    have HF9:=hid (HF.out.trans HG9.out)
    have HFw9:=hid (HF3.out.trans HF9.out)
    have c29:=obj_cell HO9.out (i:=2) (v:=.slice (some ⟨gX,0,none⟩) (km + 1) cX) rfl
    have HKL:=hid (show km + 1=(wl s W i).length by rw [wl_len];exact HK.out)
    have x9:=HX9.out.cellAt km (by omega)
    rw [ints64_at (by rw [← HKL.out];omega)] at x9
    have xf9:=HX9.out.frozenAt km
    have m9:=obj_cell (obj_fr HO13.out HF9.out List.not_mem_nil) (i:=2) (v:=.slice (some ⟨gW,oW,none⟩) n cW) rfl
    have ww:=HW.out.fr HFw9.out List.not_mem_nil i hil
    have hwi:=HWB.out i
    have HWN:=hid (show wl s W (i + 1)=(wl s W i).set km (nth (wl s W i) km + nth W i) by rw [wl_no hbg',← HKL.out];rfl)
    have hxb:=wl_bound s W HWB.out i km (by rw [← HK.out];omega)
    have hxc:nth (wl s W i) km ≤ 429496729600:=by
     have h5:(i:Int) * 1073741824 ≤ 400 * 1073741824:=Int.mul_le_mul_of_nonneg_right (by omega) (by omega)
     omega
    have hxd:=hxb.1
    clear hxb
    generalize nth W i=wi at *
    generalize nth (wl s W i) km=xk at *
    have hk1:((km + 1:Nat):Int) - 1=(km:Int):=by omega
    have hk2:(km:Int) + 1 - 1=(km:Int):=by omega
    have hkk:(km:Int) < (km:Int) + 1:=by omega
    have hwr1:IntKind.i64.wrap (xk + wi)=xk + wi:=by rw [IntKind.wrap_i64];omega
    go_region
    have hst:=HX9.out.stored km (.int .i64 (xk + wi))
    have HXZ:=hid (show (w9.setCell ⟨gX,km,none⟩ (.int .i64 (xk + wi))).drew.ownsRow (w3.heap.size + 1) 2 1 (.slice (some ⟨gX,0,none⟩) (km + 1) cX) (km + 1) (ints64 (wl s W (i + 1))) by
     rw [HWN.out,← ints64_set];exact owns_fr0 hst.1 ((Fr.refl [] _).drew))
    have HVZ:=hid (show (w9.setCell ⟨gX,km,none⟩ (.int .i64 (xk + wi))).drew.ownsRow (w3.heap.size + 1) 3 1 (.slice aV (km + 1) cV) (km + 1) (ints64 (lvs s Lv (i + 1))) by
     rw [lvs_no hbg']
     refine owns_fr0 (owns_kind HV9.out hst.2 (fun g hg=>?_)) ((Fr.refl [] _).drew)
     cases hg
     obtain ⟨cs,t',f',h5,h6⟩:=owns_type HX9.out (g:=gX) rfl
     exact ⟨cs,t',f',h5,by rw [h6];decide⟩)
    have hg8:=(owns_at HX9.out).1
    have HOZ:=hid (obj_fr HO9.out (((Fr.of_grown hst.2).trans ((Fr.refl [gX] _).drew))) (fun h=>by have:=List.mem_singleton.1 h;omega))
    have HFZ:=hid (show Fr [] w3 (w9.setCell ⟨gX,km,none⟩ (.int .i64 (xk + wi))).drew from (HF9.out.set_new (by omega)).drew)
    have HKZ:=hid (show km + 1=(begs s (i + 1)).length by rw [begs_no hbg',← HK.out])
    clear hst
    go_wp2
    go_roundw
    case rel=>exact ⟨i + 1,km + 1,_,_,by go_num,by omega,HKZ,HOZ,HVZ,HXZ,HFZ⟩
    case measure=>simp [intOf];omega
  ·obtain rfl:i=n:=by omega
   have hiI:¬ (i:Int) < (i:Int):=by omega
   have HOR:=hid (obj_fr HO23.out HF.out List.not_mem_nil)
   have c0:=obj_cell HOC.out (i:=0) (v:=.slice (some ⟨gB,0,none⟩) nb cB) rfl
   have c1:=obj_cell HOC.out (i:=1) (v:=.slice aV k cV) rfl
   have c2:=obj_cell HOC.out (i:=2) (v:=.slice aX k cX) rfl
   have r0:=obj_cell HOR.out (i:=0) (v:=.slice none 0 0) rfl
   have r1:=obj_cell HOR.out (i:=1) (v:=.slice none 0 0) rfl
   have r2:=obj_cell HOR.out (i:=2) (v:=.slice none 0 0) rfl
   have rf0:=obj_froz HOR.out 0
   have rf1:=obj_froz HOR.out 1
   have rf2:=obj_froz HOR.out 2
   have hne:w3.heap.size ≠ w.heap.size + 1:=by omega
   have HKC:=hid (show k=cn s i by rw [cn_begs hn];exact HK.out)
   have hk0:0 < k:=by have:=begs_some s hn;rw [← HK.out] at this;exact this
   obtain ⟨gV,cV',hvV⟩:=owns_shape hk0 HV.out
   cases hvV
   obtain ⟨gX,cX',hvX⟩:=owns_shape hk0 HX.out
   cases hvX
   have HEND:=hid (show (((wr.setCell ⟨w.heap.size + 1,0,none⟩ (.slice (some ⟨gB,0,none⟩) nb cB)).setCell ⟨w.heap.size + 1,1,none⟩ (.slice (some ⟨gV,0,none⟩) k cV)).setCell ⟨w.heap.size + 1,2,none⟩ (.slice (some ⟨gX,0,none⟩) k cX)).heap[w.heap.size + 1]?=some (.cells #[.slice (some ⟨gB,0,none⟩) nb cB,.slice (some ⟨gV,0,none⟩) k cV,.slice (some ⟨gX,0,none⟩) k cX] 163 (0,0)) from obj_set (obj_set (obj_set HOR.out 0 _) 1 _) 2 _)
   have HFE:=hid (show Fr [w.heap.size + 1] wr (((wr.setCell ⟨w.heap.size + 1,0,none⟩ (.slice (some ⟨gB,0,none⟩) nb cB)).setCell ⟨w.heap.size + 1,1,none⟩ (.slice (some ⟨gV,0,none⟩) k cV)).setCell ⟨w.heap.size + 1,2,none⟩ (.slice (some ⟨gX,0,none⟩) k cX)) from ((((Fr.refl [w.heap.size + 1] wr).set (List.mem_singleton.2 rfl) _).set (List.mem_singleton.2 rfl) _).set (List.mem_singleton.2 rfl) _))
   go_wp2_with fail
   have hgBn:gB ≠ w.heap.size + 1:=by have:=hgB0;omega
   refine bodyPost_ret (results_cell_row (t:=163) (fr:=(0,0)) rfl _ _ (w.heap.size + 1) _ _ rfl HEND.out Tryz.underlying163 rfl (by kernel_rfl)) rfl ?_
   have hgV:=(owns_at HV.out).1
   have hgX:=(owns_at HX.out).1
   refine ⟨_,rfl,hid ⟨gB,cB,gV,cV,gX,⟨cX,by rw [← HKC.out,show k + 1=nb by have:=HNC.out;have:=HKC.out;omega]⟩,?_,?_,?_,by omega,by omega,by omega⟩,(((HFw.out.mono (fun _ h _=>absurd h List.not_mem_nil):Fr [w.heap.size + 1] w wr).trans HFE.out).mono (fun x hx hlt=>by have:=List.mem_singleton.1 hx;omega))⟩
   ·rw [← HNC.out];exact (HRB.out.fr HF.out List.not_mem_nil).fr HFE.out (fun h=>hgBn (List.mem_singleton.1 h))
   ·intro j hj
    refine HFE.out.cell ?_ (fun h=>by have:=List.mem_singleton.1 h;omega)
    rw [HV.out.cellAt j (by have:=HKC.out;omega),ints64_at (by rw [lvs_len,← HK.out];have:=HKC.out;omega)]
   ·intro j hj
    refine HFE.out.cell ?_ (fun h=>by have:=List.mem_singleton.1 h;omega)
    rw [HX.out.cellAt j (by have:=HKC.out;omega),ints64_at (by rw [wl_len,← HK.out];have:=HKC.out;omega)]
end Go.Proofs.YtnakejhohdbfdaaGreatDoor

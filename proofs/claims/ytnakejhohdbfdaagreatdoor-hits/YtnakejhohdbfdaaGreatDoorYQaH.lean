import Derived.Test.YtnakejhohdbfdaaGreatDoorYQaA
import Derived.Test.YtnakejhohdbfdaaGreatDoorYPwF
import Derived.Laws.StructEq
import Derived.Test.YtnakejhohdbfdaaGreatDoorZMb
namespace Go.Proofs.YtnakejhohdbfdaaGreatDoor
open Go.RowKit Lev Lay Bnd
theorem twin_tame (s:ByteArray) (b:Int) (W Br:List Int) (n:Nat) (hend:Dec.Ends s n) (hBl:Br.length ≤ 5000) (hck:chk s n (clsOf s n) b W Br=0):∃ Bd V X r bs Cs Ls,Twin s b W Br Bd V X r bs Cs Ls∧Tame Bd V Ls:=by
 obtain ⟨hs,hb⟩:=chk_zero' hck
 obtain ⟨hWl,hw,hbr⟩:=chk_zero hend hs hb hck
 by_cases hn:0 < n
 ·have hE:=edges_ok hend hn Br hbr
  have hn4:n ≤ 400:=by have:=Dec.le_pos s n;have:=hend.1;omega
  have hcn:cn s n ≤ 400:=by have:=bix_len s n;unfold cn;omega
  have hB4:Br.length + 1 ≤ 400:=by
   have h1:=ei_ge hE (Br.length + 1) (Nat.le_refl _)
   have h2:=hE.le (Br.length + 1) (Nat.le_refl _)
   unfold eiOf at h1
   omega
  have hvl:(lvE s n (baseOf (Kl s n) b) Br).length=cn s n:=by rw [lvE,lvs_len,← cn_begs hn]
  have hWB:∀ i,0 ≤ nth W i∧nth W i ≤ 1073741824:=fun i=>by
   by_cases hi:i < n
   ·exact wOk_at hw hi
   ·rw [nth_over (by omega)];decide
  refine ⟨bnd s n,lvE s n (baseOf (Kl s n) b) Br,wl s W n,1 - 2 * baseOf (Kl s n) b,baseOf (Kl s n) b,clst (Dec.pos s) (nix (bix s n)) (evOf s n (baseOf (Kl s n) b) Br) W (cn s n),lns s n (baseOf (Kl s n) b) W Br (Br.length + 1),?_,tame_pos hn hn4 (base_01 hb) hWB hE hcn⟩
  exact {
   vx:=by rw [hvl,wl_len,← cn_begs hn]
   bd:=by have:=(bix_len s n).2.1;rw [hvl,bnd_length hend];unfold cn;omega
   vl:=by rw [hvl];exact hcn
   cs:=by rw [hvl];exact cls_same hend hn (base_01 hb) W Br
   l0:=by rw [lns_len];omega
   l1:=by rw [lns_len];exact hB4
   ll:=lns_small hE hcn _ W
   p:=fun w vW vB hF h1 h2=>newP_pos s b vW vB W Br n w hs hb hF hend hn h1 h2 hBl hck
   d:=fun w vW vB hF h1 h2=>newD_pos s b vW vB W Br n w hs hb hF.u hend hn h1 hWl hw h2 (by omega) hbr }
 ·obtain rfl:n=0:=by omega
  have hs0:s.size=0:=hend.1.symm
  have hbr0:=br_nil hs0 hbr
  subst hbr0
  refine ⟨[0],[],[],1 - 2 * baseOf [] b,baseOf [] b,[],[ln0],?_,tame_nil⟩
  exact {
   vx:=rfl
   bd:=rfl
   vl:=by decide
   cs:=rfl
   l0:=by decide
   l1:=by decide
   ll:=fun l hl=>by rw [List.mem_singleton.1 hl];decide
   p:=fun w vW vB hF h1 h2=>newP_nil s b vW vB W [] w hs0 hb hF h1 h2 hck
   d:=fun w vW vB hF h1 h2=>by
    obtain ⟨aB,cB,rfl,_⟩:=h2
    exact newD_nil s b vW aB cB w hs0 hb hF.u }
set_option maxRecDepth 10000 in
set_option maxHeartbeats 4000000 in
theorem hits_good (s:ByteArray) (b:Int) (vW vB:Value) (W Br:List Int) (n:Nat) (line x:Int) (w:World) (hF:Floor w) (hend:Dec.Ends s n) (hW:slAd w vW W) (hB:slAd w vB Br) (hs:s.size ≤ 4096) (hWl:W.length ≤ 4096) (hBl:Br.length ≤ 4096) (hx:-9223372036854775808 ≤ x∧x ≤ 9223372036854775807) (hck:chk s n (clsOf s n) b W Br=0) :
 Calls Tryz.prog 6 #[.agg #[.string s,.int .i64 b,vW,vB],.int .i64 line,.int .i64 x] w fun e w'=>e=.returned (.bool true)∧Fr [] w w':=by
 obtain ⟨Bd,V,X,r,bs,Cs,Ls,T,TT⟩:=twin_tame s b W Br n hend (by omega) hck
 obtain ⟨aW,cW0,rfl,_⟩:=id hW
 obtain ⟨aB,cB0,rfl,_⟩:=id hB
 obtain ⟨wb,hwb⟩:∃ wb,wb=w.alloc (.cells #[.string s,.int .i64 b,.slice aW W.length cW0,.slice aB Br.length cB0] 35):=⟨_,rfl⟩
 have HFb:=hid (show Fr [] w wb by rw [hwb];exact (Fr.refl [] w).alloc _)
 have HOb:=hid (show wb.heap[w.heap.size]?=some (.cells #[.string s,.int .i64 b,.slice aW W.length cW0,.slice aB Br.length cB0] 35 (0,0)) by rw [hwb];exact obj_new w _)
 have H13:=hid (fit_yes s b aW aB W.length cW0 Br.length cB0 wb hs hWl hBl)
 have H14:=hid (fun (Y:World) (hf:Fr [] w Y)=>made_good s b _ _ W Br n Y (hF.fr hf) hend (hW.fr hf) (hB.fr hf) (by omega) (by omega) hck Bd V X r bs Cs Ls T)
 have HP:=hid (fun (B P:Nat) (v0 v1 v2 vL:Value) (hs:List Value) (ln:Int) (Y:World) (h:LP Y B P Bd V X r Ls v0 v1 v2 vL hs)=>hitP_any B P Bd V X r Ls v0 v1 v2 vL hs ln x Y h TT T.bd T.vl T.l0 T.l1 (fun l hl=>(T.ll l hl).1))
 have HD:=hid (fun (WB:World) (U lb:Nat) (vC vM:Value) (hm:List Value) (ln:Int) (Y:World) (h:LD WB Y U lb s bs vC vM Cs Ls hm)=>hitD_any WB U lb s bs vC vM Bd V X Ls hm ln x Y (by rw [T.cs];exact h) TT T.vl T.l0 T.l1 (fun l hl=>(T.ll l hl).1) hx)
 have hK4:=T.l1
 have hK0:=T.l0
 generalize W.length=nW at *
 generalize Br.length=nB at *
 clear hW hB hF hend hck T TT hx
 go_enter Tryz.func6,Tryz.ntmps6
 go_wp2_with fail
 rw [← hwb]
 clear hwb
 refine H13.out.mono ?_
 rintro e w1 ⟨rfl,hf1⟩
 have HF1:=hid (HFb.out.trans hf1)
 have HO1:=hid (obj_fr HOb.out hf1 List.not_mem_nil)
 have l0:=obj_cell HO1.out (i:=0) (v:=.string s) rfl
 have l1:=obj_cell HO1.out (i:=1) (v:=.int .i64 b) rfl
 have l2:=obj_cell HO1.out (i:=2) (v:=.slice aW nW cW0) rfl
 have l3:=obj_cell HO1.out (i:=3) (v:=.slice aB nB cB0) rfl
 have H14b:=hid (H14.out w1 HF1.out)
 clear hf1 H13 H14
 go_wp2_with fail
 refine H14b.out.mono ?_
 rintro e w2 ⟨Q,lb,rfl,hPP,hDD,hf2⟩
 obtain ⟨P,B,v0,v1,v2,vL,hs0,hQ,hLP⟩:=hPP.out
 obtain ⟨WB,vC,vM,hm,hLD⟩:=hDD.out
 have HF2:=hid (HF1.out.trans hf2)
 have HQ:=hid hQ
 have HCP:=hid (fun (ln:Int) (Y:World) (hf:Fr [] w2 Y)=>hitC_any Q P ln x (hitP Bd V Ls ln x).1 (hitP Bd V Ls ln x).2 Y (obj_cell (obj_fr hQ hf List.not_mem_nil) (i:=0) rfl) (fun Z hz=>HP.out B P v0 v1 v2 vL hs0 ln Z (hLP.fr (hf.trans hz) (fun k hk=>absurd hk List.not_mem_nil))))
 have HCD:=hid (fun (ln:Int) (Y:World) (hf:Fr [] w2 Y)=>HD.out WB w2.heap.size lb vC vM hm ln Y (hLD.fr0 hf))
 obtain ⟨aM,cM,hvM⟩:=owns_slice hLD.ownL
 subst hvM
 have HLB:=hid hLD.obj
 generalize Ls.length=K at *
 clear hPP hDD hf2 hQ hLP hLD H14b l0 l1 l2 l3 HP HD
 go_wp2_with fail
 go_loopw [11] (fun a wr=>∃ k:Nat,a=.int .i64 ((k:Int) - 1)∧k ≤ K + 2∧Hid (Fr [] w2 wr)) (fun a _=>K + 2 - (intOf a + 1).toNat)
 case atStart=>exact ⟨0,rfl,by omega,hid (Fr.refl _ _)⟩
 case round =>
  obtain ⟨k,rfl,hk,HR⟩:=hrel
  have m3:=obj_cell (obj_fr HLB.out HR.out List.not_mem_nil) (i:=3) (v:=.slice aM K cM) rfl
  obtain ⟨ln,hln⟩:∃ ln,ln=(k:Int) - 1:=⟨_,rfl⟩
  have HLN:=hid hln
  rw [← hln]
  by_cases hlt:k < K + 2
  ·have hkI:ln ≤ (K:Int):=by omega
   have hkB:-1 ≤ ln:=by omega
   have H25:=hid (HCP.out ln wr HR.out)
   have H26:=hid (fun (Y:World) (hf:Fr [] wr Y)=>HCD.out ln Y (HR.out.trans hf))
   generalize (hitP Bd V Ls ln x).1=a at *
   generalize (hitP Bd V Ls ln x).2=c at *
   clear hln
   go_wp2_with fail
   refine H25.out.mono ?_
   rintro e w3 ⟨rfl,hf3⟩
   have HF3:=hid hf3
   have HF3a:=hid (show Fr [] wr (w3.alloc (.cells #[.int .i64 a,.bool c] 55)) from hf3.alloc _)
   have H26b:=hid (H26.out _ HF3a.out)
   have HO3:=hid (obj_new w3 (.cells #[.int .i64 a,.bool c] 55))
   clear hf3 H25
   go_wp2_with fail
   refine H26b.out.mono ?_
   rintro e w4 ⟨rfl,hf4⟩
   have HF4:=hid (HF3a.out.trans hf4)
   have HO34:=hid (obj_fr HO3.out hf4 List.not_mem_nil)
   have y0:=obj_cell HO34.out (i:=0) (v:=.int .i64 a) rfl
   have y1:=obj_cell HO34.out (i:=1) (v:=.bool c) rfl
   have hl4:=obj_lt HO34.out
   have hwl:IntKind.i64.wrap (ln + 1)=ln + 1:=by rw [IntKind.wrap_i64];omega
   clear hf4 H26b
   go_wp2_with fail
   go_roundw
   case rel=>exact ⟨k + 1,by rw [HLN.out];simp,by omega,hid ((HR.out.trans HF4.out).alloc _)⟩
   case measure=>simp [intOf];omega
  ·have hkI:¬ ln ≤ (K:Int):=by omega
   have hkd:decide (ln ≤ (K:Int))=false:=by simpa using hkI
   have H25:=hid (HCP.out line wr HR.out)
   have H26:=hid (fun (Y:World) (hf:Fr [] wr Y)=>HCD.out line Y (HR.out.trans hf))
   generalize (hitP Bd V Ls line x).1=a at *
   generalize (hitP Bd V Ls line x).2=c at *
   clear hln
   go_wp2_with fail
   refine H25.out.mono ?_
   rintro e w3 ⟨rfl,hf3⟩
   have HF3a:=hid (show Fr [] wr (w3.alloc (.cells #[.int .i64 a,.bool c] 55)) from hf3.alloc _)
   have H26b:=hid (H26.out _ HF3a.out)
   have HO3:=hid (obj_new w3 (.cells #[.int .i64 a,.bool c] 55))
   clear hf3 H25
   go_wp2_with fail
   refine H26b.out.mono ?_
   rintro e w4 ⟨rfl,hf4⟩
   have HF4:=hid (HF3a.out.trans hf4)
   have HO34:=hid (obj_fr HO3.out hf4 List.not_mem_nil)
   have y0:=obj_cell HO34.out (i:=0) (v:=.int .i64 a) rfl
   have y1:=obj_cell HO34.out (i:=1) (v:=.bool c) rfl
   have hl4:=obj_lt HO34.out
   clear hf4 H26b
   go_wp2_with fail
   go_ret
   exact ⟨rfl,((HF2.out.trans HR.out).trans HF4.out).alloc _⟩
end Go.Proofs.YtnakejhohdbfdaaGreatDoor
namespace Go.Proofs.YtnakejhohdbfdaaGreatDoor
open Go.RowKit Lev Lay Bnd
set_option maxRecDepth 10000 in
theorem hits_out (s:ByteArray) (b:Int) (aW aB:Option Addr) (nW cW nB cB:Nat) (line x:Int) (w:World) (h:¬ (s.size ≤ 4096∧nW ≤ 4096∧nB ≤ 4096)) :
 Calls Tryz.prog 6 #[.agg #[.string s,.int .i64 b,.slice aW nW cW,.slice aB nB cB],.int .i64 line,.int .i64 x] w fun e w'=>e=.returned (.bool true)∧Fr [] w w':=by
 have HFb:=hid (show Fr [] w (w.alloc (.cells #[.string s,.int .i64 b,.slice aW nW cW,.slice aB nB cB] 35)) from (Fr.refl [] w).alloc _)
 have H13:=hid (fit_no s b aW aB nW cW nB cB (w.alloc (.cells #[.string s,.int .i64 b,.slice aW nW cW,.slice aB nB cB] 35)) h)
 clear h
 go_enter Tryz.func6,Tryz.ntmps6
 go_wp2_with fail
 refine H13.out.mono ?_
 rintro e w1 ⟨rfl,hf1⟩
 have HF1:=hid (HFb.out.trans hf1)
 clear hf1 H13
 go_wp2_with fail
 go_ret
 exact ⟨rfl,HF1.out⟩
set_option maxRecDepth 10000 in
theorem hits_bad (s:ByteArray) (b:Int) (vW vB:Value) (W Br:List Int) (n:Nat) (line x:Int) (w:World) (hF:Floor w) (hend:Dec.Ends s n) (hW:slAd w vW W) (hB:slAd w vB Br) (hs:s.size ≤ 4096) (hWl:W.length ≤ 4096) (hBl:Br.length ≤ 4096) (hck:chk s n (clsOf s n) b W Br ≠ 0) :
 Calls Tryz.prog 6 #[.agg #[.string s,.int .i64 b,vW,vB],.int .i64 line,.int .i64 x] w fun e w'=>e=.returned (.bool true)∧Fr [] w w':=by
 obtain ⟨aW,cW0,rfl,_⟩:=id hW
 obtain ⟨aB,cB0,rfl,_⟩:=id hB
 obtain ⟨wb,hwb⟩:∃ wb,wb=w.alloc (.cells #[.string s,.int .i64 b,.slice aW W.length cW0,.slice aB Br.length cB0] 35):=⟨_,rfl⟩
 have HFb:=hid (show Fr [] w wb by rw [hwb];exact (Fr.refl [] w).alloc _)
 have HOb:=hid (show wb.heap[w.heap.size]?=some (.cells #[.string s,.int .i64 b,.slice aW W.length cW0,.slice aB Br.length cB0] 35 (0,0)) by rw [hwb];exact obj_new w _)
 have H13:=hid (fit_yes s b aW aB W.length cW0 Br.length cB0 wb hs hWl hBl)
 have H14:=hid (fun (Y:World) (hf:Fr [] w Y)=>made_bad s b _ _ W Br n Y (hF.fr hf) hend (hW.fr hf) (hB.fr hf) (by omega) (by omega) hck)
 generalize W.length=nW at *
 generalize Br.length=nB at *
 clear hW hB hF hend hck
 go_enter Tryz.func6,Tryz.ntmps6
 go_wp2_with fail
 rw [← hwb]
 clear hwb
 refine H13.out.mono ?_
 rintro e w1 ⟨rfl,hf1⟩
 have HF1:=hid (HFb.out.trans hf1)
 have HO1:=hid (obj_fr HOb.out hf1 List.not_mem_nil)
 have l0:=obj_cell HO1.out (i:=0) (v:=.string s) rfl
 have l1:=obj_cell HO1.out (i:=1) (v:=.int .i64 b) rfl
 have l2:=obj_cell HO1.out (i:=2) (v:=.slice aW nW cW0) rfl
 have l3:=obj_cell HO1.out (i:=3) (v:=.slice aB nB cB0) rfl
 have H14b:=hid (H14.out w1 HF1.out)
 clear hf1 H13 H14
 go_wp2_with fail
 refine H14b.out.mono ?_
 rintro e w2 ⟨rfl,hf2⟩
 have HF2:=hid (HF1.out.trans hf2)
 clear hf2 H14b
 go_wp2_with fail
 go_ret
 exact ⟨rfl,HF2.out⟩
theorem hits_any (s:ByteArray) (b:Int) (vW vB:Value) (W Br:List Int) (line x:Int) (w:World) (hF:Floor w) (hW:slAd w vW W) (hB:slAd w vB Br) (hx:-9223372036854775808 ≤ x∧x ≤ 9223372036854775807) :
 Calls Tryz.prog 6 #[.agg #[.string s,.int .i64 b,vW,vB],.int .i64 line,.int .i64 x] w fun e w'=>e=.returned (.bool true)∧Fr [] w w':=by
 by_cases h:s.size ≤ 4096∧W.length ≤ 4096∧Br.length ≤ 4096
 ·obtain ⟨n,hend⟩:=Cls.runs s
  by_cases hck:chk s n (clsOf s n) b W Br=0
  ·exact hits_good s b vW vB W Br n line x w hF hend hW hB h.1 h.2.1 h.2.2 hx hck
  ·exact hits_bad s b vW vB W Br n line x w hF hend hW hB h.1 h.2.1 h.2.2 hck
 ·obtain ⟨aW,cW,rfl,_⟩:=hW
  obtain ⟨aB,cB,rfl,_⟩:=hB
  exact hits_out s b aW aB _ cW _ cB line x w h
end Go.Proofs.YtnakejhohdbfdaaGreatDoor
namespace Go.Proofs.YtnakejhohdbfdaaGreatDoor.Cls
open Go.RowKit Tabs
theorem tKinds:(Tryz.prog.globals[9]?).map (·.type)=some 329:=by kernel_rfl
theorem cells48:Tryz.prog.cellsOf 328=3:=by kernel_rfl
theorem cells30:Tryz.prog.cellsOf 305=1:=by kernel_rfl
theorem dataKinds:(Rows.laid_caret_runes_kinds:DataW Unit)=.agg (kindTab.map rowData):=by kernel_rfl
theorem kinds_of_head {W:World} {n:String} {rest:List (String × DataW Unit)} (h:laidMet Tryz.prog ((n,Rows.laid_caret_runes_kinds) :: rest) W) (hn:Tryz.prog.globalNamed n=some 9):TabAt W 9 kindTab:=by
 rw [dataKinds] at h
 exact tabAt_of_head hn tKinds Tryz.underlying329 Tryz.underlying328 cells48 rfl rfl rfl Tryz.underlying21 Tryz.underlying21 Tryz.underlying305 cells21 cells21 cells30 len_kind.symm h
end Go.Proofs.YtnakejhohdbfdaaGreatDoor.Cls

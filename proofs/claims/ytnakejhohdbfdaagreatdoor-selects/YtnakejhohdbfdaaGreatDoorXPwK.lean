import Derived.Test.YtnakejhohdbfdaaGreatDoorXPwB
import Derived.Test.YtnakejhohdbfdaaGreatDoorXMm
namespace Go.Proofs.YtnakejhohdbfdaaGreatDoor
open Go.RowKit Lev Lay Bnd
theorem br_nil {s:ByteArray}{Br:List Int}(hs:s.size=0)(h:Lay.brTo (bnd s 0) s.size Br Br.length=true):Br=[]:=by
 cases Br with
 | nil=>rfl
 | cons x l =>
   have:=brTo_at h 0 (by simp);omega
theorem edL_nil {s:ByteArray}(hs:s.size=0):edL s []=[0,0]:=by simp[edL,hs]
set_option maxRecDepth 10000 in
set_option maxHeartbeats 4000000 in
theorem layP_nil (s:ByteArray)(b:Int)(vW vB:Value)(W Br:List Int)(w:World)(hs:s.size=0)(hb:b=0∨b=1∨b=2)(hF:Floor w)(hW:slAt w vW W)(hB:slAd w vB Br)(hck:chk s 0 (clsOf s 0) b W Br=0) :
 Calls Tryz.prog 163 #[.agg #[.string s,.int .i64 b,vW,vB]] w fun e w'=>∃P v0 v1 v2 vL hs,e=.returned (.pointer (some ⟨P,0,none⟩))∧LP w' w.heap.size P [0] [] [] (1 - 2 * baseOf [] b) [ln0] v0 v1 v2 vL hs∧Fr [] w w':=by
 have hend:Dec.Ends s 0:=⟨hs.symm,fun j hj=>absurd hj (Nat.not_lt_zero _)⟩;obtain⟨hWl,hw,hbr⟩:=chk_zero hend (by omega) hb hck;have hbr0:=br_nil hs hbr;subst hbr0;have hW0:=hW;obtain⟨aW,cW,rfl,hW2⟩:=hW;obtain⟨aB,cB,rfl,_⟩:=id hB;rw[hWl]at hW0 ⊢;obtain⟨bs,hbs⟩:∃bs,bs=baseOf [] b:=⟨_,rfl⟩;have HB01:=hid (show bs=0∨bs=1 by rw[hbs];exact base_01 hb);obtain⟨wb,hwb⟩:∃wb,wb=w.alloc (.cells #[.string s,.int .i64 b,.slice aW 0 cW,.slice aB 0 cB] 35):=⟨_,rfl⟩;have HFb:=hid (show Fr [] w wb by rw[hwb];exact(Fr.refl [] w).alloc _);have HOB:=hid (show wb.heap[w.heap.size]?=some (.cells #[.string s,.int .i64 b,.slice aW 0 cW,.slice aB 0 cB] 35 (0,0)) by rw[hwb];exact obj_new w _);have HFL:=hid (fun(X:World) (hf:Fr [] w X)=>hF.fr hf);have H163:=hid (fun X:World=>Cls.fn21_any s X (by omega));have H38:=hid (fun(X:World)=>of_nil s b X hs hb);have HBR:=hid hB;have HE:=hid hend;have HSZ:=hid hs;rw[←hbs]at H38;have hs4:s.size≤400:=by omega
 clear hW0 hW2 hend hck hbr hw hWl hB hF hb hs;rw[←hbs];clear hbs;dsimp only[List.length_nil]at HBR ⊢;go_enter Tryz.func163,Tryz.ntmps163;go_wp2_with fail;rw[←hwb];have hwbs:wb.heap.size=w.heap.size+1:=by rw[hwb];simp
 clear hwb;have HF1:=HFb;have HO1:=HOB;refine(H163.out wb).mono ?_;rintro e w2 ⟨n',v,hn',rfl,own,hb2,hz⟩;obtain rfl:=Dec.ends_unique HE.out hn';obtain rfl:=hz rfl;have HF2:=hid (HF1.out.trans (Fr.of_below (S:=[]) hb2));have HO2:=hid (obj_fr HO1.out (Fr.of_below (S:=[]) hb2) List.not_mem_nil);have k0:=obj_cell HO2.out (i:=0) (v:=.string s) rfl;have k3:=obj_cell HO2.out (i:=3) (v:=.slice aB 0 cB) rfl;have hl2:w.heap.size<w2.heap.size:=obj_lt HO2.out;have H164:=hid (concat_edges s [] aB cB w2 (HBR.out.fr HF2.out) (by simp));dsimp only[List.length_nil]at H164;clear own hb2 hn' H163 hz;go_wp2_with fail;refine H164.out.mono ?_;rintro e w3 ⟨ge,ce,rfl,hce,hge,hE3,hf3⟩;rw[edL_nil HSZ.out]at hE3;have HF3:=hid (HF2.out.trans hf3);have HO3:=hid (obj_fr HO2.out hf3 List.not_mem_nil);have HE3:=hid hE3;have H38b:=hid (H38.out w3);have k0:=obj_cell HO3.out (i:=0) (v:=.string s) rfl;have k1:=obj_cell HO3.out (i:=1) (v:=.int .i64 b) rfl;clear hE3 hf3 H164 k3 H38;go_wp2_with fail;refine H38b.out.mono ?_;rintro e w4 ⟨gL,rfl,hf4⟩;have HF4:=hid (HF3.out.trans hf4);have HO4:=hid (obj_fr HO3.out hf4 List.not_mem_nil);have HE4:=hid (HE3.out.fr hf4 List.not_mem_nil);have H165:=hid (ends_nil gL 0 ge (0+2) ce bs w4);clear k0 k1 H38b hf4;go_wp2_with fail;refine H165.out.mono ?_;rintro e w5 ⟨rfl,hf5⟩;have HF5:=hid (HF4.out.trans hf5);have HO5:=hid (obj_fr HO4.out hf5 List.not_mem_nil);have HE5:=hid (HE4.out.fr hf5 List.not_mem_nil);have H166:=hid (signs_nil s b aW aB 0 cW 0 cB gL 0 w5 HSZ.out (HFL.out w5 HF5.out).t9);have k0:=obj_cell HO5.out (i:=0) (v:=.string s) rfl;have k1:=obj_cell HO5.out (i:=1) (v:=.int .i64 b) rfl;have k2:=obj_cell HO5.out (i:=2) (v:=.slice aW 0 cW) rfl;have k3:=obj_cell HO5.out (i:=3) (v:=.slice aB 0 cB) rfl;clear hf5 H165;go_wp2_with fail;refine H166.out.mono ?_;rintro e w6 ⟨gB,cB',rfl,hrB,hgB,hf6⟩;have HF6:=hid (HF5.out.trans hf6);have HE6:=hid (HE5.out.fr hf6 List.not_mem_nil);have HRB:=hid hrB;clear hrB hf6 H166 k0 k1 k2 k3;obtain⟨w7,hw7⟩:∃w7,w7=w6.alloc (.cells #[.slice (some ⟨gB,0,none⟩) 1 cB',.slice none 0 0,.slice none 0 0] 163):=⟨_,rfl⟩;have HF67:=hid (show Fr [] w6 w7 by rw[hw7];exact(Fr.refl [] w6).alloc _);have HO7:=hid (show w7.heap[w6.heap.size]?=some (.cells #[.slice (some ⟨gB,0,none⟩) 1 cB',.slice none 0 0,.slice none 0 0] 163 (0,0)) by rw[hw7];exact obj_new w6 _);have H167:=hid (fun(X:World) (hf:Fr [] w7 X)=>lines_nil gB cB' ge ce X hce ((HRB.out.fr HF67.out List.not_mem_nil).fr hf List.not_mem_nil) ((HE6.out.fr HF67.out List.not_mem_nil).fr hf List.not_mem_nil));have q0:=obj_cell HO7.out (i:=0) (v:=.slice (some ⟨gB,0,none⟩) 1 cB') rfl;have q1:=obj_cell HO7.out (i:=1) (v:=.slice none 0 0) rfl;have q2:=obj_cell HO7.out (i:=2) (v:=.slice none 0 0) rfl;have hbI:(0:Int)≤bs∧bs≤1:=by have:=HB01.out;omega
 obtain⟨hb0,hb1⟩:=hbI;have hw1:IntKind.i64.wrap (2 * bs)=2 * bs:=by rw[IntKind.wrap_i64];omega
 have hw2:IntKind.i64.wrap (1 - 2 * bs)=1 - 2 * bs:=by rw[IntKind.wrap_i64];omega
 go_wp2_with fail;rw[←hw7];clear hw7;go_region_with (first | (go_at_call 208;refine(H167.out _ ?_).mono ?_;exact frz _ _ _ rfl rfl rfl rfl;rintro e w8 ⟨vL,hs8,rfl,own8,hl8,hf8⟩;obtain⟨aL,cL,rfl⟩:=owns_slice own8;have hf8':Fr [] w7 w8:=⟨hf8.os,hf8.tape,hf8.output,hf8.size,hf8.block⟩;have HF8:=hid hf8';have HO8:=hid own8;have HL8:=hid hl8;have r0:=hf8'.cell q0 List.not_mem_nil;have r1:=hf8'.cell q1 List.not_mem_nil;have r2:=hf8'.cell q2 List.not_mem_nil;clear hf8 hf8' own8 hl8))
 all_goals (
  have HF9:=hid (show Fr [] w7 (w8.alloc (.cells #[.slice (some ⟨gB,0,none⟩) 1 cB',.slice none 0 0,.slice none 0 0,.slice aL 1 cL,.int .i64 (1 - 2 * bs)] 166))from HF8.out.alloc _)
  have HFE:=hid (HF6.out.trans (HF67.out.trans HF9.out))
  have HLP:=hid (show LP (w8.alloc (.cells #[.slice (some ⟨gB,0,none⟩) 1 cB',.slice none 0 0,.slice none 0 0,.slice aL 1 cL,.int .i64 (1 - 2 * bs)] 166)) w.heap.size w8.heap.size [0] [] [] (1 - 2 * bs) [ln0] _ _ _ _ hs8 from by
   have z1:=HF5.out.size
   have z4:=HF6.out.size
   have z2:=HF67.out.size
   have z3:=HF8.out.size
   have hz:w.heap.size≤w7.heap.size:=by omega
   refine⟨obj_new w8 _,by omega,sl0_of rfl (by omega) ((HRB.out.fr HF67.out List.not_mem_nil).fr HF9.out List.not_mem_nil),⟨none,0,rfl,.inl rfl⟩,⟨none,0,rfl,.inl rfl⟩,owns_low (HO8.out.alloc _) hz,w8.heap.size,by simp,?_⟩
   intro j l hj
   obtain⟨vO,vX,a1,a2,a3,a4,a5,a6,a7,a8⟩:=HL8.out j l hj
   exact⟨vO,vX,a1,a2,a3,a4,owns_low (a5.alloc _) hz,owns_low (a6.alloc _) hz,a7,a8⟩)
  go_wp2
  go_ret
  exact⟨_,_,_,_,_,_,rfl,HLP.out,HFE.out⟩)
theorem newP_nil (s:ByteArray)(b:Int)(vW vB:Value)(W Br:List Int)(w:World)(hs:s.size=0)(hb:b=0∨b=1∨b=2)(hF:Floor w)(hW:slAt w vW W)(hB:slAd w vB Br)(hck:chk s 0 (clsOf s 0) b W Br=0) :
 Calls Tryz.prog 94 #[.agg #[.string s,.int .i64 b,vW,vB]] w fun e w'=>∃P v0 v1 v2 vL hs,e=.returned (.tuple #[.pointer (some ⟨P,0,none⟩),.nilIface])∧LP w' w.heap.size P [0] [] [] (1 - 2 * baseOf [] b) [ln0] v0 v1 v2 vL hs∧Fr [] w w':=by
 have hend:Dec.Ends s 0:=⟨hs.symm,fun j hj=>absurd hj (Nat.not_lt_zero _)⟩;have hbr0:=br_nil hs (chk_zero hend (by omega) hb hck).2.2;exact newP_of s b vW vB W Br 0 w (by omega) hb hF hend hW hB (by rw[hbr0];simp) hck _ _ _ _ _ (fun Y hf=>layP_nil s b vW vB W Br Y hs hb (hF.fr hf) (hW.fr hf) (hB.fr hf) hck)
set_option maxRecDepth 10000 in
set_option maxHeartbeats 4000000 in
theorem newD_nil (s:ByteArray)(b:Int)(vW:Value)(aB:Option Addr)(cB:Nat)(w:World)(hs:s.size=0)(hb:b=0∨b=1∨b=2)(hT:Lib.Utf8Tabs 1 2 w) :
 Calls Tryz.prog 54 #[.agg #[.string s,.int .i64 b,vW,.slice aB 0 cB]] w fun e w'=>∃lb WB vC vL hs,e=.returned (.pointer (some ⟨lb,0,none⟩))∧LD WB w' w'.heap.size lb s (baseOf [] b) vC vL [] [⟨0,0,[],[0]⟩] hs∧w.heap.size≤lb∧Fr [] w w':=by
 obtain⟨wb,hwb⟩:∃wb,wb=w.alloc (.cells #[.string s,.int .i64 b,vW,.slice aB 0 cB] 35):=⟨_,rfl⟩;have HFb:=hid (show Fr [] w wb by rw[hwb];exact(Fr.refl [] w).alloc _);have HOB:=hid (show wb.heap[w.heap.size]?=some (.cells #[.string s,.int .i64 b,vW,.slice aB 0 cB] 35 (0,0)) by rw[hwb];exact obj_new w _);have HTb:=hid (fun(X:World) (hf:Fr [] w X)=>Cls.tabs_below hT (hf.below (Nat.le_refl _) (fun _ h=>absurd h List.not_mem_nil)));have H10:=hid (ref5_full_nil s b wb hs (HTb.out wb HFb.out) hb);have HEN:=hid (show Dec.Ends s 0 from⟨hs.symm,fun j hj=>absurd hj (Nat.not_lt_zero _)⟩);obtain⟨bs,hbs'⟩:∃bs,bs=baseOf [] b:=⟨_,rfl⟩;rw[←hbs']at H10 ⊢;have HSZ:=hid hs;have hs1:s.size≤400:=by omega
 clear hT hbs' hs;go_enter Tryz.func54,Tryz.ntmps54;go_wp2_with fail;rw[←hwb];clear hwb;refine H10.out.mono ?_;rintro e w1 ⟨p,bL,rfl,hc0,hc3,hc6,hf1⟩;have HF1:=hid (HFb.out.trans hf1);have HOB1:=hid (obj_fr HOB.out hf1 List.not_mem_nil);have k0:=obj_cell HOB1.out (i:=0) rfl;have hsb:=obj_lt HOB1.out;have hqp:p<w1.heap.size:=World.block_lt_of_cell? _ _ hc0;have HC0:=hid hc0;clear hc0 hc3 hf1 H10;go_wp2_with fail;go_region;obtain⟨w2,hw2⟩:∃w2,w2=(w1.alloc (.cells #[.string s,.int .i64 bs,.slice none 0 0,.slice none 0 0] 46)).drew:=⟨_,rfl⟩;have HF2:=hid (show Fr [] w1 w2 by rw[hw2];exact frA _ _);have HLO:=hid (show w2.heap[w1.heap.size]?=some (.cells #[.string s,.int .i64 bs,.slice none 0 0,.slice none 0 0] 46 (0,0)) by rw[hw2];exact obj_new w1 _);rw[←hw2];clear hw2;have HOB2:=hid (obj_fr HOB1.out HF2.out List.not_mem_nil);clear k0 hc6;have k0:=obj_cell HOB2.out (i:=0) rfl;have H61:=hid (Cls.ref15_any s w2 (by omega) (HTb.out w2 (HF1.out.trans HF2.out)) 0 HEN.out);go_wp2_with fail;refine H61.out.mono ?_;rintro e WB ⟨v5,rfl,own5,hb5⟩;have HF3:=hid (HF2.out.trans (Fr.of_below (S:=[]) hb5));have HLO3:=hid (obj_fr HLO.out (Fr.of_below (S:=[]) hb5) List.not_mem_nil);have HOB3:=hid (obj_fr HOB1.out HF3.out List.not_mem_nil);have hBlen:(bnd s 0).length=1:=by rw[bnd,if_neg (by have:=HSZ.out;omega)];rfl
 rw[hBlen]at own5;obtain⟨gB,cB5,hv5⟩:=owns_shape (by omega) own5;subst hv5;have hlb:w1.heap.size<WB.heap.size:=obj_lt HLO3.out
 have HL0:=hid (show LD WB WB WB.heap.size w1.heap.size s bs (.slice none 0 0) (.slice none 0 0) [] [] []from
  ⟨Fr.refl _ _,hlb,HLO3.out,World.ownsRow_nil _ _ _ _,World.ownsRow_nil _ _ _ _,fun j l hj=>by simp at hj⟩)
 clear own5 hb5 H61 k0 hBlen;have k0:=obj_cell HOB3.out (i:=0) rfl;have k2:=obj_cell HOB3.out (i:=2) rfl;have k3:=obj_cell HOB3.out (i:=3) rfl;have HLN:=hid (line_nil WB WB w1.heap.size p gB cB5 vW s bs WB.heap.size HL0.out (Nat.le_refl _) (HF3.out.cell HC0.out List.not_mem_nil));have hsz0:(s.size:Int)=0:=by have:=HSZ.out;omega
 go_wp2_with fail;go_loopw [6,7] (fun ff kk wr=>(kk=.int .i64 0∧ff=.int .i64 0∧wr=WB)∨(kk=.int .i64 1∧ff=.int .i64 0∧∃vC vL hs',Hid (LD WB wr wr.heap.size w1.heap.size s bs vC vL [] [⟨0,0,[],[0]⟩] hs'))) (fun _ kk _=>1 - (intOf kk).toNat)
 case atStart=>exact .inl ⟨rfl,rfl,rfl⟩
 case round =>
  rcases hrel with⟨rfl,rfl,rfl⟩ | ⟨rfl,rfl,vC,vL,hs',HLk⟩
  ·go_wp2_with fail
   refine HLN.out.mono ?_;rintro e w9 ⟨rfl,vC',vL',hs9,hL9⟩;have HL9:=hid hL9;clear hL9 HLN;go_wp2;go_roundw
   case rel=>exact .inr ⟨rfl,rfl,vC',vL',hs9,HL9⟩
   case measure=>simp[intOf]
  ·have j3:=obj_cell (obj_fr HOB3.out HLk.out.fr (fun h=>by have:=List.mem_singleton.1 h;omega)) (i:=3) rfl
   go_wp2;go_ret;refine⟨w1.heap.size,WB,vC,vL,hs',rfl,HLk.out,HF1.out.size,?_⟩;exact(HF1.out.trans HF3.out).trans_lb HLk.out.fr HF1.out.size
theorem bix_in {s:ByteArray}{n k:Nat}(hk:k<cn s n):nix (bix s n) k<n:=by
 have:=nix_lt (bix_sorted s n) hk (by have:=(bix_len s n).2.1;unfold cn;omega);rw[bix_last]at this;exact this
theorem cls_same {s:ByteArray}{n:Nat}(h:Dec.Ends s n)(hn:0<n){bs:Int}(hb:bs=0∨bs=1)(W Br:List Int):clP (bnd s n) (lvE s n bs Br) (wl s W n) (cn s n)=clst (Dec.pos s) (nix (bix s n)) (evOf s n bs Br) W (cn s n):=by
 rw[clP,clst];refine List.map_congr_left (fun k hk=>?_);have hk:=List.mem_range.1 hk;have hl:=(bix_len s n).2.1;have hk1:k<(bix s n).length∧k+1<(bix s n).length:=by unfold cn at hk;omega
 have hkb:k<(begs s n).length:=by rw[←cn_begs hn];exact hk
 rw[clOf,bnd_nth h hk1.1,bnd_nth h hk1.2,wl_cw hn W hk,lvE,lvs_at hkb,←bix_at hn hkb,mixL_all (by rw[levels_len _ _ _ hb,Kl_len];exact bix_in hk)];rfl
theorem lns_small {s:ByteArray}{n:Nat}{Br:List Int}(E:Edges s n Br)(hc:cn s n≤400)(bs:Int)(W:List Int):∀l∈lns s n bs W Br (Br.length+1),l.o.length≤1000∧l.x.length≤1001:=fun l hl=>by
 obtain⟨j,hj,rfl⟩:=List.mem_map.1 hl;have hj:=List.mem_range.1 hj;have h1:=E.le (j+1) (by omega);have h2:eiOf s n Br (j+1) - eiOf s n Br j≤1000:=by unfold eiOf;omega
 unfold lnOf;dsimp only;rw[List.length_map,ordD_len,xs_len];omega
theorem chk_zero' {s:ByteArray}{n:Nat}{K:List Int}{b:Int}{W Br:List Int}(hc:chk s n K b W Br=0):s.size≤400∧(b=0∨b=1∨b=2):=by
 unfold chk at hc;by_cases h1:400<s.size
 ·rw[if_pos h1]at hc;cases hc
 ·rw[if_neg h1]at hc
  by_cases h2:b<0∨2<b
  ·rw[if_pos h2]at hc;cases hc
  ·exact⟨by omega,by omega⟩
theorem ckP_all (s:ByteArray)(b:Int)(vW vB:Value)(W Br:List Int)(n:Nat)(w:World)(hF:Floor w)(hend:Dec.Ends s n)(hW:slAt w vW W)(hWl:W.length≤5000)(hB:slAt w vB Br)(hBl:Br.length≤5000) :
 Calls Tryz.prog 162 #[.agg #[.string s,.int .i64 b,vW,vB]] w fun e w'=>∃v,e=.returned v∧((v=.nilIface∧chk s n (clsOf s n) b W Br=0)∨(chk s n (clsOf s n) b W Br≠0∧faultAt w' v (chk s n (clsOf s n) b W Br)))∧Fr [] w w':=by
 by_cases h1:400<s.size
 ·have hc:chk s n (clsOf s n) b W Br=1:=by rw[chk,if_pos h1]
  rw[hc];refine(ckP_bad s b 1 vW vB w (fun w'=>check_long s b w' h1)).mono ?_;rintro e w' ⟨v,rfl,h,hf⟩;exact⟨v,rfl,.inr ⟨by decide,h⟩,hf⟩
 ·by_cases h2:b<0∨2<b
  ·have hc:chk s n (clsOf s n) b W Br=2:=by rw[chk,if_neg h1,if_pos h2]
   rw[hc];refine(ckP_bad s b 2 vW vB w (fun w'=>check_base s b w' (by omega) (by omega) (by omega) (by omega))).mono ?_;rintro e w' ⟨v,rfl,h,hf⟩;exact⟨v,rfl,.inr ⟨by decide,h⟩,hf⟩
  ·exact ckP_rest s b vW vB W Br n w (by omega) (by omega) hF hend hW hWl hB hBl
theorem ckD_all (s:ByteArray)(b:Int)(vW vB:Value)(W Br:List Int)(n:Nat)(w:World)(hT:Lib.Utf8Tabs 1 2 w)(hend:Dec.Ends s n)(hW:slAt w vW W)(hWl:W.length≤5000)(hB:slAt w vB Br)(hBl:Br.length≤5000) :
 Calls Tryz.prog 53 #[.agg #[.string s,.int .i64 b,vW,vB]] w fun e w'=>e=.returned (.int .i64 (chk s n (clsOf s n) b W Br))∧Fr [] w w':=by
 by_cases h1:400<s.size
 ·rw[show chk s n (clsOf s n) b W Br=1 by rw[chk,if_pos h1]]
  exact ck_long s b vW vB w h1
 ·by_cases h2:b<0∨2<b
  ·rw[show chk s n (clsOf s n) b W Br=2 by rw[chk,if_neg h1,if_pos h2]]
   exact ck_base s b vW vB w (by omega) h2
  ·exact ck_rest s b vW vB W Br n w (by omega) (by omega) hT hend hW hWl hB hBl
structure Twin (s:ByteArray)(b:Int)(W Br:List Int)(Bd V X:List Int)(r bs:Int)(Cs:List (Int × Int × Int × Int))(Ls:List Ln):Prop where
 vx:X.length=V.length
 bd:Bd.length=V.length+1
 vl:V.length≤400
 cs:clP Bd V X V.length=Cs
 l0:0<Ls.length
 l1:Ls.length≤400
 ll:∀l∈Ls,l.o.length≤1000∧l.x.length≤1001
 p:∀w vW vB,Floor w→slAt w vW W→slAd w vB Br→Calls Tryz.prog 94 #[.agg #[.string s,.int .i64 b,vW,vB]] w fun e w'=>∃P v0 v1 v2 vL hs,e=.returned (.tuple #[.pointer (some ⟨P,0,none⟩),.nilIface])∧LP w' w.heap.size P Bd V X r Ls v0 v1 v2 vL hs∧Fr [] w w'
 d:∀w vW vB,Floor w→slAt w vW W→slAt w vB Br→Calls Tryz.prog 54 #[.agg #[.string s,.int .i64 b,vW,vB]] w fun e w'=>∃lb WB vC vL hs,e=.returned (.pointer (some ⟨lb,0,none⟩))∧LD WB w' w'.heap.size lb s bs vC vL Cs Ls hs∧w.heap.size≤lb∧Fr [] w w'
def near (x hi:Int):Int:=if x<0 then 0 else if hi<x then hi else x
theorem near_in {x hi:Int}(h:0≤hi):0≤near x hi∧near x hi≤hi:=by unfold near;split <;> (try split) <;> omega
def sideP (Bd V:List Int)(c:Nat)(right:Bool):Int × Bool:=if right=(nth V c % 2 == 1)then(nth Bd c,false)else(nth Bd (c+1),true)
def lnN (Ls:List Ln)(i:Nat):Ln:=Ls[i]?.getD ⟨0,0,[],[]⟩
def normP (Bd V:List Int)(Ls:List Ln)(line gap:Int):Int × Bool :=
 let o:=(lnN Ls (near line (Ls.length - 1)).toNat).o
 let k:=(near gap o.length).toNat
 if o.length=0 then(0,false)else if k=0 then sideP Bd V (nix o 0) false else sideP Bd V (nix o (k - 1)) true
structure Tame (Bd V:List Int)(Ls:List Ln):Prop where
 vb:∀i,0≤nth V i∧nth V i≤1000
 ob:∀l∈Ls,∀k∈l.o,k<V.length
 xl:∀l∈Ls,l.x.length=l.o.length+1
 xb:∀l∈Ls,∀k,k<l.x.length→0≤nth l.x k∧nth l.x k≤nth l.x (l.x.length - 1)∧nth l.x k≤1000000000000000
theorem xsum_mono {f:Nat→Int}{o:List Nat}{M:Int}(h:∀j,0≤f j∧f j≤M):∀k d,xsum f o k≤xsum f o (k+d)∧xsum f o (k+d)≤xsum f o k+d * M
 | k,0=>by simp
 | k,d+1=>by
   have ih:=xsum_mono (o:=o) h k d;have hh:=h (nix o (k+d));rw[show k+(d+1)=(k+d)+1 from rfl,xsum];have e:((d+1:Nat):Int) * M=(d:Int) * M+M:=by rw[Int.natCast_add,Int.add_mul];simp
   rw[e];omega
theorem lnN_mem {Ls:List Ln}{i:Nat}(h:i<Ls.length):lnN Ls i∈Ls:=by
 rw[lnN,List.getElem?_eq_getElem h];exact List.getElem_mem _
theorem nix_le {s:ByteArray}{n:Nat}(k:Nat):nix (bix s n) k≤n:=by
 by_cases hk:k<cn s n
 ·exact Nat.le_of_lt (bix_in hk)
 ·have hl:=(bix_len s n).2.1
  by_cases hk2:k=cn s n
  ·rw[hk2,bix_last];exact Nat.le_refl _
  ·rw[nix,List.getElem?_eq_none (by unfold cn at hk hk2;omega)];exact Nat.zero_le _
theorem tame_pos {s:ByteArray}{n:Nat}(hn:0<n)(hn4:n≤400){bs:Int}(hb:bs=0∨bs=1){W Br:List Int}(hW:∀i,0≤nth W i∧nth W i≤1073741824)(E:Edges s n Br)(hc:cn s n≤400):Tame (bnd s n) (lvE s n bs Br) (lns s n bs W Br (Br.length+1)):=by
 have hvl:(lvE s n bs Br).length=cn s n:=by rw[lvE,lvs_len,←cn_begs hn]
 have hwid:∀k,0≤wid W (nix (bix s n) k) (nix (bix s n) (k+1))∧wid W (nix (bix s n) k) (nix (bix s n) (k+1))≤429496729600:=fun k=>by
  have h1:=wid_bound W 1073741824 hW (nix (bix s n) k) (nix (bix s n) (k+1) - nix (bix s n) k);have h2:=nix_le (s:=s) (n:=n) (k+1);unfold wid;omega
 have hl:∀l∈lns s n bs W Br (Br.length+1),∃a b,a≤b∧b≤cn s n∧l=lnOf (Dec.pos s) (nix (bix s n)) (evOf s n bs Br) W a b:=fun l hl=>by
  obtain⟨j,hj,rfl⟩:=List.mem_map.1 hl;have hj:=List.mem_range.1 hj;exact⟨_,_,Nat.le_of_lt (E.mono j (j+1) (by omega) (by omega)),E.le (j+1) (by omega),rfl⟩
 refine⟨lvs_in (fun i=>?_),fun l hm k hk=>?_,fun l hm=>?_,fun l hm k hk=>?_⟩
 ·by_cases hi:i<n
  ·rw[mixL_all (by rw[levels_len _ _ _ hb,Kl_len];exact hi)]
   have:=elv_bound (Rl s n) (Kl s n) bs hb (edg (bix s n) (bnd s n) Br) i;omega
  ·rw[nth_over (by rw[mixL_len,levels_len _ _ _ hb,Kl_len];omega)];decide
 ·obtain⟨a,b,hab,hbc,rfl⟩:=hl l hm
  obtain⟨t,ht,rfl⟩:=List.mem_map.1 (show k∈(ordD _ (b - a)).map _ from hk);have:=ordD_lt _ _ t ht;rw[hvl];omega
 ·obtain⟨a,b,hab,hbc,rfl⟩:=hl l hm
  unfold lnOf;dsimp only;rw[xs_len,List.length_map,ordD_len]
 ·obtain⟨a,b,hab,hbc,rfl⟩:=hl l hm
  unfold lnOf at hk ⊢;dsimp only at hk ⊢;rw[xs_len]at hk ⊢;rw[xs_at _ _ (by omega),xs_at _ _ (by omega)];have m1:=xsum_mono (f:=fun k=>wid W (nix (bix s n) k) (nix (bix s n) (k+1))) (o:=(ordD (fun t=>evOf s n bs Br (nix (bix s n) (a+t))) (b - a)).map (fun t=>t+a)) hwid 0 k;have m2:=xsum_mono (f:=fun k=>wid W (nix (bix s n) k) (nix (bix s n) (k+1))) (o:=(ordD (fun t=>evOf s n bs Br (nix (bix s n) (a+t))) (b - a)).map (fun t=>t+a)) hwid k (b - a - k);rw[Nat.zero_add]at m1;rw[show k+(b - a - k)=b - a+1 - 1 by omega]at m2;have e0:xsum (fun k=>wid W (nix (bix s n) k) (nix (bix s n) (k+1))) ((ordD (fun t=>evOf s n bs Br (nix (bix s n) (a+t))) (b - a)).map (fun t=>t+a)) 0=0:=rfl;rw[e0]at m1;refine⟨m1.1,m2.1,Int.le_trans m1.2 ?_⟩;omega
theorem tame_nil:Tame [0] [] [ln0]:=by
 refine⟨fun i=>?_,fun l hl k hk=>?_,fun l hl=>?_,fun l hl k hk=>?_⟩
 ·rw[nth_over (by simp)];decide
 ·rw[List.mem_singleton.1 hl]at hk;cases hk
 ·rw[List.mem_singleton.1 hl];rfl
 ·rw[List.mem_singleton.1 hl]at hk ⊢
  obtain rfl:k=0:=by simp[ln0]at hk;exact hk
  decide
theorem near_eq (x hi:Int)(h:0≤hi):min (max x 0) hi=near x hi:=by unfold near;split <;> (try split) <;> omega
theorem nearP_any (x hi:Int)(w:World)(h:0≤hi):Calls Tryz.prog 107 #[.int .i64 x,.int .i64 hi] w fun e w'=>e=.returned (.int .i64 (near x hi))∧w'=w:=by
 rw[←near_eq x hi h];go_enter Tryz.func107,Tryz.ntmps107;go_wp2;go_ret;exact⟨rfl,rfl⟩
theorem bound_any (x hi:Int)(w:World):Calls Tryz.prog 62 #[.int .i64 x,.int .i64 hi] w fun e w'=>e=.returned (.int .i64 (near x hi))∧w'=w:=by
 obtain⟨R,hR⟩:∃R,R=near x hi:=⟨_,rfl⟩;rw[←hR];have HR:=hid hR;clear hR;by_cases h1:x<0
 ·have HE:=hid (show R=0 by rw[HR.out,near,if_pos h1])
  go_enter Tryz.func62,Tryz.ntmps62;go_wp2;go_ret;exact⟨by simp[HE.out],rfl⟩
 ·have hd1:decide (x<0)=false:=by simp;omega
  by_cases h2:hi<x
  ·have HE:=hid (show R=hi by rw[HR.out,near,if_neg h1,if_pos h2])
   go_enter Tryz.func62,Tryz.ntmps62;go_wp2;go_ret;exact⟨by simp[HE.out],rfl⟩
  ·have hd2:decide (hi<x)=false:=by simp;omega
   have HE:=hid (show R=x by rw[HR.out,near,if_neg h1,if_neg h2]);go_enter Tryz.func62,Tryz.ntmps62;go_wp2;go_ret;exact⟨by simp[HE.out],rfl⟩
theorem nearL_any (a:Option Addr)(K c:Nat)(x:Int)(w:World)(h0:0<K)(hK:K≤100000):Calls Tryz.prog 106 #[.slice a K c,.int .i64 x] w fun e w'=>e=.returned (.int .i64 (near x ((K:Int) - 1)))∧w'=w:=by
 have HC:=hid (fun X:World=>nearP_any x ((K:Int) - 1) X (by omega));have hw1:IntKind.i64.wrap ((K:Int) - 1)=(K:Int) - 1:=by rw[IntKind.wrap_i64];omega
 generalize near x ((K:Int) - 1)=y at *;go_enter Tryz.func106,Tryz.ntmps106;go_wp2_with (go_at_call 107;refine(HC.out _).mono ?_;rintro e w' ⟨rfl,rfl⟩);go_ret;exact⟨rfl,rfl⟩
set_option maxRecDepth 10000 in
set_option maxHeartbeats 2000000 in
theorem side_any (Bd V:List Int)(gB cB nB gV nV cV c:Nat)(v2:Value)(right:Bool)(w:World)(hc:c<nV)(hn:nB=nV+1)(hB:rowAt w gB nB Bd)(hV:rowAt w gV nV V)(h0:0≤nth V c)(hn1:nV≤1000) :
 Calls Tryz.prog 108 #[.agg #[.slice (some ⟨gB,0,none⟩) nB cB,.slice (some ⟨gV,0,none⟩) nV cV,v2],.int .i64 (c:Nat),.bool right] w fun e w'=>e=.returned (.agg #[.int .i64 (sideP Bd V c right).1,.bool (sideP Bd V c right).2])∧Fr [] w w':=by
 obtain⟨w2,hw2⟩:∃w2,w2=(w.alloc (.cells #[.slice (some ⟨gB,0,none⟩) nB cB,.slice (some ⟨gV,0,none⟩) nV cV,v2] 163)).alloc (.cells #[.int .i64 0,.bool false] 55):=⟨_,rfl⟩;have HF2:=hid (show Fr [] w w2 by rw[hw2];exact((Fr.refl [] w).alloc _).alloc _);have HO1:=hid (show w2.heap[w.heap.size]?=some (.cells #[.slice (some ⟨gB,0,none⟩) nB cB,.slice (some ⟨gV,0,none⟩) nV cV,v2] 163 (0,0)) by rw[hw2];exact obj_fr (obj_new w _) ((Fr.refl [] _).alloc _) List.not_mem_nil)
 have HO2:=hid (show w2.heap[w.heap.size+1]?=some (.cells #[.int .i64 0,.bool false] 55 (0,0)) by
  have h:=obj_new (w.alloc (.cells #[.slice (some ⟨gB,0,none⟩) nB cB,.slice (some ⟨gV,0,none⟩) nV cV,v2] 163)) (.cells #[.int .i64 0,.bool false] 55)
  rw[←hw2]at h;simpa using h)
 have H105:=hid (left_any V gV nV cV c (.slice (some ⟨gB,0,none⟩) nB cB) v2 w2 hc (hV.fr HF2.out List.not_mem_nil) h0);have HB:=hid hB;obtain⟨x,y,hxy⟩:∃x y,sideP Bd V c right=(x,y):=⟨_,_,rfl⟩;have HXY:=hid hxy;rw[hxy];have k0:=obj_cell HO1.out (i:=0) (v:=.slice (some ⟨gB,0,none⟩) nB cB) rfl;have k1:=obj_cell HO1.out (i:=1) (v:=.slice (some ⟨gV,0,none⟩) nV cV) rfl;have k2:=obj_cell HO1.out (i:=2) (v:=v2) rfl;have HN:=hid hn;have hb1:c<nB∧c+1<nB:=by omega
 clear hB hV hxy h0 hn;go_enter Tryz.func108,Tryz.ntmps108;go_wp2_with fail;rw[←hw2];clear hw2;refine H105.out.mono ?_;rintro e w3 ⟨rfl,hf3⟩;have HF3:=hid (HF2.out.trans hf3);have HO13:=hid (obj_fr HO1.out hf3 List.not_mem_nil);have HO23:=hid (obj_fr HO2.out hf3 List.not_mem_nil);clear k0 k1 k2 hf3 H105;have k0:=obj_cell HO13.out (i:=0) (v:=.slice (some ⟨gB,0,none⟩) nB cB) rfl;have z0:=obj_cell HO23.out (i:=0) (v:=.int .i64 0) rfl;have z1:=obj_cell HO23.out (i:=1) (v:=.bool false) rfl;have f0:=obj_froz HO23.out 0;have f1:=obj_froz HO23.out 1;have c0:=HF3.out.cell (HB.out c hb1.1) List.not_mem_nil;have c1:=HF3.out.cell (HB.out (c+1) hb1.2) List.not_mem_nil;have hcI:(c:Int)<(nB:Int):=by omega
 have hcI2:(c:Int)+1<(nB:Int):=by omega
 have hS:right=(nth V c % 2 == 1)→x=nth Bd c∧y=false:=fun h=>by
  have e:=HXY.out;rw[sideP,if_pos h]at e;cases e;exact⟨rfl,rfl⟩
 have hS':¬right=(nth V c % 2 == 1)→x=nth Bd (c+1)∧y=true:=fun h=>by
  have e:=HXY.out;rw[sideP,if_neg h]at e;cases e;exact⟨rfl,rfl⟩
 have HEND:=hid (fun(x:Int) (y:Bool)=>(show((w3.setCell ⟨w.heap.size+1,0,none⟩ (.int .i64 x)).setCell ⟨w.heap.size+1,1,none⟩ (.bool y)).heap[w.heap.size+1]?=some (.cells #[.int .i64 x,.bool y] 55 (0,0))from obj_set (obj_set HO23.out 0 _) 1 _));have HFE:=hid (fun(x:Int) (y:Bool)=>(show Fr [] w ((w3.setCell ⟨w.heap.size+1,0,none⟩ (.int .i64 x)).setCell ⟨w.heap.size+1,1,none⟩ (.bool y))from HF3.out.behind ((fr_set1 _ _ _ _).set (List.mem_singleton.2 rfl) _) (fun k hk=>by rw[List.mem_singleton.1 hk];omega)));generalize (nth V c % 2 == 1)=od at *;generalize nth Bd c=y0 at *;generalize nth Bd (c+1)=y1 at *;clear hb1;by_cases hr:right=od
 ·obtain⟨rfl,rfl⟩:=hS hr
  subst hr;clear hS hS' HXY;go_wp2_with fail;refine bodyPost_ret (results_cell_row (t:=55) (fr:=(0,0)) rfl _ _ (w.heap.size+1) _ _ rfl (HEND.out _ _) Tryz.underlying55 rfl (by kernel_rfl)) rfl ?_;exact⟨rfl,HFE.out _ _⟩
 ·obtain⟨rfl,rfl⟩:=hS' hr
  have hr2:(right == od)=false:=by simpa using hr
  clear hS hS' HXY;go_wp2_with fail;refine bodyPost_ret (results_cell_row (t:=55) (fr:=(0,0)) rfl _ _ (w.heap.size+1) _ _ rfl (HEND.out _ _) Tryz.underlying55 rfl (by kernel_rfl)) rfl ?_;exact⟨rfl,HFE.out _ _⟩
end Go.Proofs.YtnakejhohdbfdaaGreatDoor

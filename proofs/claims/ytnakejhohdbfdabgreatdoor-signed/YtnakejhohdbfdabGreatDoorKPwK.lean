import Derived.Test.YtnakejhohdbfdabGreatDoorKLvLaw
import Derived.Test.YtnakejhohdbfdabGreatDoorKLdG
import Derived.Test.YtnakejhohdbfdabGreatDoorKPlD
import Derived.Test.YtnakejhohdbfdabGreatDoorKPwD
import Derived.Test.YtnakejhohdbfdabGreatDoorKLdB
namespace Go.Proofs.YtnakejhohdbfdabGreatDoor
open Go.RowKit Lev Lay Bnd
theorem br_nil {s:ByteArray}{Br:List Int}(hs:s.size=0)(h:Lay.brTo (bnd s 0) s.size Br Br.length=true):Br=[]:=by
 cases Br with
 | nil=>rfl
 | cons x l =>
   have:=brTo_at h 0 (by simp);omega
theorem edL_nil {s:ByteArray}(hs:s.size=0):edL s []=[0,0]:=by simp[edL,hs]
set_option maxRecDepth 10000 in
set_option maxHeartbeats 4000000 in
theorem layP_nil (s:ByteArray)(b:Int)(vW vB:Value)(W Br:List Int)(w:World)(hs:s.size=0)(hb:b=0∨b=1∨b=2)(hF:Floor w)(hW:slAt w vW W)(hB:slAd w vB Br)(hck:chk s 0 (clsOf s 0) b W Br=0) :
 Calls Tryz.prog 164 #[.agg #[.string s,.int .i64 b,vW,vB]] w fun e w'=>∃P v0 v1 v2 vL hs,e=.returned (.pointer (some ⟨P,0,none⟩))∧LP w' w.heap.size P [0] [] [] (1 - 2 * baseOf [] b) [ln0] v0 v1 v2 vL hs∧Fr [] w w':=by
 have hend:Dec.Ends s 0:=⟨hs.symm,fun j hj=>absurd hj (Nat.not_lt_zero _)⟩;obtain⟨hWl,hw,hbr⟩:=chk_zero hend (by omega) hb hck;have hbr0:=br_nil hs hbr;subst hbr0;have hW0:=hW;obtain⟨aW,cW,rfl,hW2⟩:=hW;obtain⟨aB,cB,rfl,_⟩:=id hB;rw[hWl]at hW0 ⊢;obtain⟨bs,hbs⟩:∃bs,bs=baseOf [] b:=⟨_,rfl⟩;have HB01:=hid (show bs=0∨bs=1 by rw[hbs];exact base_01 hb);obtain⟨wb,hwb⟩:∃wb,wb=w.alloc (.cells #[.string s,.int .i64 b,.slice aW 0 cW,.slice aB 0 cB] 48):=⟨_,rfl⟩;have HFb:=hid (show Fr [] w wb by rw[hwb];exact(Fr.refl [] w).alloc _);have HOB:=hid (show wb.heap[w.heap.size]?=some (.cells #[.string s,.int .i64 b,.slice aW 0 cW,.slice aB 0 cB] 48 (0,0)) by rw[hwb];exact obj_new w _);have HFL:=hid (fun(X:World) (hf:Fr [] w X)=>hF.fr hf);have H163:=hid (fun X:World=>Cls.fn21_any s X (by omega));have H38:=hid (fun(X:World)=>of_nil s b X hs hb);have HBR:=hid hB;have HE:=hid hend;have HSZ:=hid hs;rw[←hbs]at H38;have hs4:s.size≤400:=by omega
 clear hW0 hW2 hend hck hbr hw hWl hB hF hb hs;rw[←hbs];clear hbs;dsimp only[List.length_nil]at HBR ⊢;go_enter Tryz.func164,Tryz.ntmps164;go_wp2_with fail;rw[←hwb];have hwbs:wb.heap.size=w.heap.size+1:=by rw[hwb];simp
 clear hwb;have HF1:=HFb;have HO1:=HOB;refine(H163.out wb).mono ?_;rintro e w2 ⟨n',v,hn',rfl,own,hb2,hz⟩;obtain rfl:=Dec.ends_unique HE.out hn';obtain rfl:=hz rfl;have HF2:=hid (HF1.out.trans (Fr.of_below (S:=[]) hb2));have HO2:=hid (obj_fr HO1.out (Fr.of_below (S:=[]) hb2) List.not_mem_nil);have k0:=obj_cell HO2.out (i:=0) (v:=.string s) rfl;have k3:=obj_cell HO2.out (i:=3) (v:=.slice aB 0 cB) rfl;have hl2:w.heap.size<w2.heap.size:=obj_lt HO2.out;have H164:=hid (concat_edges s [] aB cB w2 (HBR.out.fr HF2.out) (by simp));dsimp only[List.length_nil]at H164;clear own hb2 hn' H163 hz;go_wp2_with fail;refine H164.out.mono ?_;rintro e w3 ⟨ge,ce,rfl,hce,hge,hE3,hf3⟩;rw[edL_nil HSZ.out]at hE3;have HF3:=hid (HF2.out.trans hf3);have HO3:=hid (obj_fr HO2.out hf3 List.not_mem_nil);have HE3:=hid hE3;have H38b:=hid (H38.out w3);have k0:=obj_cell HO3.out (i:=0) (v:=.string s) rfl;have k1:=obj_cell HO3.out (i:=1) (v:=.int .i64 b) rfl;clear hE3 hf3 H164 k3 H38;go_wp2_with fail;refine H38b.out.mono ?_;rintro e w4 ⟨gL,rfl,hf4⟩;have HF4:=hid (HF3.out.trans hf4);have HO4:=hid (obj_fr HO3.out hf4 List.not_mem_nil);have HE4:=hid (HE3.out.fr hf4 List.not_mem_nil);have H165:=hid (ends_nil gL 0 ge (0+2) ce bs w4);clear k0 k1 H38b hf4;go_wp2_with fail;refine H165.out.mono ?_;rintro e w5 ⟨rfl,hf5⟩;have HF5:=hid (HF4.out.trans hf5);have HO5:=hid (obj_fr HO4.out hf5 List.not_mem_nil);have HE5:=hid (HE4.out.fr hf5 List.not_mem_nil);have H166:=hid (signs_nil s b aW aB 0 cW 0 cB gL 0 w5 HSZ.out (HFL.out w5 HF5.out).t9);have k0:=obj_cell HO5.out (i:=0) (v:=.string s) rfl;have k1:=obj_cell HO5.out (i:=1) (v:=.int .i64 b) rfl;have k2:=obj_cell HO5.out (i:=2) (v:=.slice aW 0 cW) rfl;have k3:=obj_cell HO5.out (i:=3) (v:=.slice aB 0 cB) rfl;clear hf5 H165;go_wp2_with fail;refine H166.out.mono ?_;rintro e w6 ⟨gB,cB',rfl,hrB,hgB,hf6⟩;have HF6:=hid (HF5.out.trans hf6);have HE6:=hid (HE5.out.fr hf6 List.not_mem_nil);have HRB:=hid hrB;clear hrB hf6 H166 k0 k1 k2 k3;obtain⟨w7,hw7⟩:∃w7,w7=w6.alloc (.cells #[.slice (some ⟨gB,0,none⟩) 1 cB',.slice none 0 0,.slice none 0 0] 207):=⟨_,rfl⟩;have HF67:=hid (show Fr [] w6 w7 by rw[hw7];exact(Fr.refl [] w6).alloc _);have HO7:=hid (show w7.heap[w6.heap.size]?=some (.cells #[.slice (some ⟨gB,0,none⟩) 1 cB',.slice none 0 0,.slice none 0 0] 207 (0,0)) by rw[hw7];exact obj_new w6 _);have H167:=hid (fun(X:World) (hf:Fr [] w7 X)=>lines_nil gB cB' ge ce X hce ((HRB.out.fr HF67.out List.not_mem_nil).fr hf List.not_mem_nil) ((HE6.out.fr HF67.out List.not_mem_nil).fr hf List.not_mem_nil));have q0:=obj_cell HO7.out (i:=0) (v:=.slice (some ⟨gB,0,none⟩) 1 cB') rfl;have q1:=obj_cell HO7.out (i:=1) (v:=.slice none 0 0) rfl;have q2:=obj_cell HO7.out (i:=2) (v:=.slice none 0 0) rfl;have hbI:(0:Int)≤bs∧bs≤1:=by have:=HB01.out;omega
 obtain⟨hb0,hb1⟩:=hbI;have hw1:IntKind.i64.wrap (2 * bs)=2 * bs:=by rw[IntKind.wrap_i64];omega
 have hw2:IntKind.i64.wrap (1 - 2 * bs)=1 - 2 * bs:=by rw[IntKind.wrap_i64];omega
 go_wp2_with fail;rw[←hw7];clear hw7;go_region_with (first | (go_at_call 263;refine(H167.out _ ?_).mono ?_;exact frz _ _ _ rfl rfl rfl rfl;rintro e w8 ⟨vL,hs8,rfl,own8,hl8,hf8⟩;obtain⟨aL,cL,rfl⟩:=owns_slice own8;have hf8':Fr [] w7 w8:=⟨hf8.os,hf8.tape,hf8.output,hf8.size,hf8.block⟩;have HF8:=hid hf8';have HO8:=hid own8;have HL8:=hid hl8;have r0:=hf8'.cell q0 List.not_mem_nil;have r1:=hf8'.cell q1 List.not_mem_nil;have r2:=hf8'.cell q2 List.not_mem_nil;clear hf8 hf8' own8 hl8))
 all_goals (
  have HF9:=hid (show Fr [] w7 (w8.alloc (.cells #[.slice (some ⟨gB,0,none⟩) 1 cB',.slice none 0 0,.slice none 0 0,.slice aL 1 cL,.int .i64 (1 - 2 * bs)] 210))from HF8.out.alloc _)
  have HFE:=hid (HF6.out.trans (HF67.out.trans HF9.out))
  have HLP:=hid (show LP (w8.alloc (.cells #[.slice (some ⟨gB,0,none⟩) 1 cB',.slice none 0 0,.slice none 0 0,.slice aL 1 cL,.int .i64 (1 - 2 * bs)] 210)) w.heap.size w8.heap.size [0] [] [] (1 - 2 * bs) [ln0] _ _ _ _ hs8 from by
   have z1:=HF5.out.size
   have z4:=HF6.out.size
   have z2:=HF67.out.size
   have z3:=HF8.out.size
   have hz:w.heap.size≤w7.heap.size:=by omega
   refine⟨obj_new w8 _,by omega,sl0_of rfl (by omega) ((HRB.out.fr HF67.out List.not_mem_nil).fr HF9.out List.not_mem_nil),⟨none,0,rfl,.inl rfl⟩,⟨none,0,rfl,.inl rfl⟩,owns_low (HO8.out.alloc _) hz,w8.heap.size,by simp,?_⟩
   intro j l hj
   obtain⟨vO,vX,a1,a2,a3,a4,a5,a6,a7,a8⟩:=HL8.out j l hj
   exact⟨vO,vX,a1,a2,a3,a4,owns_low (a5.alloc _) hz,owns_low (a6.alloc _) hz,a7,a8⟩)
  go_wp2
  go_ret
  exact⟨_,_,_,_,_,_,rfl,HLP.out,HFE.out⟩)
theorem newP_nil (s:ByteArray)(b:Int)(vW vB:Value)(W Br:List Int)(w:World)(hs:s.size=0)(hb:b=0∨b=1∨b=2)(hF:Floor w)(hW:slAt w vW W)(hB:slAd w vB Br)(hck:chk s 0 (clsOf s 0) b W Br=0) :
 Calls Tryz.prog 93 #[.agg #[.string s,.int .i64 b,vW,vB]] w fun e w'=>∃P v0 v1 v2 vL hs,e=.returned (.tuple #[.pointer (some ⟨P,0,none⟩),.nilIface])∧LP w' w.heap.size P [0] [] [] (1 - 2 * baseOf [] b) [ln0] v0 v1 v2 vL hs∧Fr [] w w':=by
 have hend:Dec.Ends s 0:=⟨hs.symm,fun j hj=>absurd hj (Nat.not_lt_zero _)⟩;have hbr0:=br_nil hs (chk_zero hend (by omega) hb hck).2.2;exact newP_of s b vW vB W Br 0 w (by omega) hb hF hend hW hB (by rw[hbr0];simp) hck _ _ _ _ _ (fun Y hf=>layP_nil s b vW vB W Br Y hs hb (hF.fr hf) (hW.fr hf) (hB.fr hf) hck)
theorem bix_in {s:ByteArray}{n k:Nat}(hk:k<cn s n):nix (bix s n) k<n:=by
 have:=nix_lt (bix_sorted s n) hk (by have:=(bix_len s n).2.1;unfold cn;omega);rw[bix_last]at this;exact this
theorem cls_same {s:ByteArray}{n:Nat}(h:Dec.Ends s n)(hn:0<n){bs:Int}(hb:bs=0∨bs=1)(W Br:List Int):clP (bnd s n) (lvE s n bs Br) (wl s W n) (cn s n)=clst (Dec.pos s) (nix (bix s n)) (evOf s n bs Br) W (cn s n):=by
 rw[clP,clst];refine List.map_congr_left (fun k hk=>?_);have hk:=List.mem_range.1 hk;have hl:=(bix_len s n).2.1;have hk1:k<(bix s n).length∧k+1<(bix s n).length:=by unfold cn at hk;omega
 have hkb:k<(begs s n).length:=by rw[←cn_begs hn];exact hk
 rw[clOf,bnd_nth h hk1.1,bnd_nth h hk1.2,wl_cw hn W hk,lvE,lvs_at hkb,←bix_at hn hkb,mixL_all (by rw[levels_len _ _ _ hb,Kl_len];exact bix_in hk)];rfl
theorem lns_small {s:ByteArray}{n:Nat}{Br:List Int}(E:Edges s n Br)(hc:cn s n≤400)(bs:Int)(W:List Int):∀l∈lns s n bs W Br (Br.length+1),l.o.length≤1000∧l.x.length≤1001:=fun l hl=>by
 obtain⟨j,hj,rfl⟩:=List.mem_map.1 hl;have hj:=List.mem_range.1 hj;have h1:=E.le (j+1) (by omega);have h2:eiOf s n Br (j+1) - eiOf s n Br j≤1000:=by unfold eiOf;omega
 unfold lnOf;dsimp only;rw[List.length_map,ordD_len,xs_len];omega
theorem chk_zero' {s:ByteArray}{n:Nat}{K:List Int}{b:Int}{W Br:List Int}(hc:chk s n K b W Br=0):s.size≤400∧(b=0∨b=1∨b=2):=by
 unfold chk at hc;by_cases h1:400<s.size
 ·rw[if_pos h1]at hc;cases hc
 ·rw[if_neg h1]at hc
  by_cases h2:b<0∨2<b
  ·rw[if_pos h2]at hc;cases hc
  ·exact⟨by omega,by omega⟩
theorem ckP_all (s:ByteArray)(b:Int)(vW vB:Value)(W Br:List Int)(n:Nat)(w:World)(hF:Floor w)(hend:Dec.Ends s n)(hW:slAt w vW W)(hWl:W.length≤5000)(hB:slAt w vB Br)(hBl:Br.length≤5000) :
 Calls Tryz.prog 163 #[.agg #[.string s,.int .i64 b,vW,vB]] w fun e w'=>∃v,e=.returned v∧((v=.nilIface∧chk s n (clsOf s n) b W Br=0)∨(chk s n (clsOf s n) b W Br≠0∧faultAt w' v (chk s n (clsOf s n) b W Br)))∧Fr [] w w':=by
 by_cases h1:400<s.size
 ·have hc:chk s n (clsOf s n) b W Br=1:=by rw[chk,if_pos h1]
  rw[hc];refine(ckP_bad s b 1 vW vB w (fun w'=>check_long s b w' h1)).mono ?_;rintro e w' ⟨v,rfl,h,hf⟩;exact⟨v,rfl,.inr ⟨by decide,h⟩,hf⟩
 ·by_cases h2:b<0∨2<b
  ·have hc:chk s n (clsOf s n) b W Br=2:=by rw[chk,if_neg h1,if_pos h2]
   rw[hc];refine(ckP_bad s b 2 vW vB w (fun w'=>check_base s b w' (by omega) (by omega) (by omega) (by omega))).mono ?_;rintro e w' ⟨v,rfl,h,hf⟩;exact⟨v,rfl,.inr ⟨by decide,h⟩,hf⟩
  ·exact ckP_rest s b vW vB W Br n w (by omega) (by omega) hF hend hW hWl hB hBl
structure Twin (s:ByteArray)(b:Int)(W Br:List Int)(Bd V X:List Int)(r bs:Int)(Cs:List (Int × Int × Int × Int))(Ls:List Ln):Prop where
 vx:X.length=V.length
 bd:Bd.length=V.length+1
 vl:V.length≤400
 cs:clP Bd V X V.length=Cs
 l0:0<Ls.length
 l1:Ls.length≤400
 ll:∀l∈Ls,l.o.length≤1000∧l.x.length≤1001
 p:∀w vW vB,Floor w→slAt w vW W→slAd w vB Br→Calls Tryz.prog 93 #[.agg #[.string s,.int .i64 b,vW,vB]] w fun e w'=>∃P v0 v1 v2 vL hs,e=.returned (.tuple #[.pointer (some ⟨P,0,none⟩),.nilIface])∧LP w' w.heap.size P Bd V X r Ls v0 v1 v2 vL hs∧Fr [] w w'
end Go.Proofs.YtnakejhohdbfdabGreatDoor
namespace Go.Proofs.YtnakejhohdbfdabGreatDoor
open Go.RowKit Lev Lay
theorem ints64_uno:∀l:List Int,∀u∈ints64 l,u.oneCell'=true:=fun l u hu=>by
 obtain⟨x,_,rfl⟩:=List.mem_map.1 (show u∈l.map _ from hu);rfl
theorem lns_one {w:World}{B U:Nat}{hs:List Value}{Ls:List Ln}(h:lnsAt w B U hs Ls)(hl:hs.length=Ls.length * 4):∀u∈hs,u.oneCell'=true:=fun u hu=>by
 obtain⟨j,hj,rfl⟩:=List.mem_iff_getElem.1 hu;have hq:j / 4<Ls.length:=by omega
 obtain⟨vO,vX,a1,a2,a3,a4,a5,a6,_⟩:=h (j / 4) _ (List.getElem?_eq_getElem hq);obtain⟨aO,cO,rfl⟩:=owns_slice a5;obtain⟨aX,cX,rfl⟩:=owns_slice a6;have h0:j=j / 4 * 4∨j=j / 4 * 4+1∨j=j / 4 * 4+2∨j=j / 4 * 4+3:=by omega
 have h1:hs[j]?=some hs[j]:=List.getElem?_eq_getElem hj;generalize hs[j]=u at *
 rcases h0 with h0 | h0 | h0 | h0 <;> rw[h0]at h1
 ·rw[a1]at h1;cases h1;rfl
 ·rw[a2]at h1;cases h1;rfl
 ·rw[a3]at h1;cases h1;rfl
 ·rw[a4]at h1;cases h1;rfl
theorem lnsAt.renew {wr w2:World}{B U i:Nat}{hI:List Value}{Ls:List Ln}{l:Ln}{vO vX:Value}(h:lnsAt wr B U hI (Ls.take i))(hi:Ls[i]?=some l)(hlen:i * 4+3<hI.length)(hf0:hI[i * 4]?=some (.int .i64 l.f))(hf1:hI[i * 4+1]?=some (.int .i64 l.t))
 (hk:∀e v n xs,(e=3∨e=2)→wr.ownsRow B e 1 v n xs→w2.ownsRow B e 1 v n xs) (hU:U≤w2.heap.size) (hO:w2.ownsRow B 3 1 vO l.o.length (intsN l.o)) (hX:w2.ownsRow B 2 1 vX l.x.length (ints64 l.x)) :
 lnsAt w2 B w2.heap.size ((hI.set (i * 4+2) vO).set (i * 4+3) vX) (Ls.take (i+1)):=by
 intro j l' hj;have hji:j<i+1:=by
  have:=(List.getElem?_eq_some_iff.1 hj).1;simp at this;omega
 rw[List.getElem?_take_of_lt hji]at hj
 rcases Nat.lt_succ_iff_lt_or_eq.1 hji with hlt | heq
 ·obtain⟨vO',vX',a1,a2,a3,a4,a5,a6,a7,a8⟩:=h j l' (by rw[List.getElem?_take_of_lt hlt];exact hj)
  refine⟨vO',vX',?_,?_,?_,?_,hk 3 _ _ _ (.inl rfl) a5,hk 2 _ _ _ (.inr rfl) a6,fun g hg=>Nat.lt_of_lt_of_le (a7 g hg) hU,fun g hg=>Nat.lt_of_lt_of_le (a8 g hg) hU⟩
  ·rw[List.getElem?_set_ne (by omega),List.getElem?_set_ne (by omega)];exact a1
  ·rw[List.getElem?_set_ne (by omega),List.getElem?_set_ne (by omega)];exact a2
  ·rw[List.getElem?_set_ne (by omega),List.getElem?_set_ne (by omega)];exact a3
  ·rw[List.getElem?_set_ne (by omega),List.getElem?_set_ne (by omega)];exact a4
 ·subst heq
  rw[hi]at hj;cases hj;refine⟨vO,vX,?_,?_,?_,?_,hO,hX,fun g hg=>(hO.lt g hg).2,fun g hg=>(hX.lt g hg).2⟩
  ·rw[List.getElem?_set_ne (by omega),List.getElem?_set_ne (by omega)];exact hf0
  ·rw[List.getElem?_set_ne (by omega),List.getElem?_set_ne (by omega)];exact hf1
  ·rw[List.getElem?_set_ne (by omega),List.getElem?_set_self (by omega)]
  ·rw[List.getElem?_set_self (by simp;omega)]
def Sep (hs:List Value)(k:Nat):Prop:=∀j j' v v' g g',j<j'→j'<k→(hs[j * 4+2]?=some v∧hs[j' * 4+2]?=some v'∨hs[j * 4+3]?=some v∧hs[j' * 4+3]?=some v')→v.ownBlock=some g→v'.ownBlock=some g'→g<g'
theorem Sep.renew {hI:List Value}{i U:Nat}{Ls:List Ln}{w:World}{B:Nat}{vO vX:Value}(h:Sep hI i)(hl:lnsAt w B U hI (Ls.take i))(hiL:i≤Ls.length)(hlen:i * 4+3<hI.length)(hO:∀g,vO.ownBlock=some g→U≤g)(hX:∀g,vX.ownBlock=some g→U≤g) :
 Sep ((hI.set (i * 4+2) vO).set (i * 4+3) vX) (i+1):=by
 intro j j' v v' g g' hjj hj' hv hg hg';have e2:∀a,a<i→((hI.set (i * 4+2) vO).set (i * 4+3) vX)[a * 4+2]?=hI[a * 4+2]?:=fun a ha=>by rw[List.getElem?_set_ne (by omega),List.getElem?_set_ne (by omega)]
 have e3:∀a,a<i→((hI.set (i * 4+2) vO).set (i * 4+3) vX)[a * 4+3]?=hI[a * 4+3]?:=fun a ha=>by rw[List.getElem?_set_ne (by omega),List.getElem?_set_ne (by omega)]
 have n2:((hI.set (i * 4+2) vO).set (i * 4+3) vX)[i * 4+2]?=some vO:=by rw[List.getElem?_set_ne (by omega),List.getElem?_set_self (by omega)]
 have n3:((hI.set (i * 4+2) vO).set (i * 4+3) vX)[i * 4+3]?=some vX:=by rw[List.getElem?_set_self (by simp;omega)]
 rcases Nat.lt_succ_iff_lt_or_eq.1 hj' with hlt | heq
 ·rw[e2 j (by omega),e2 j' hlt,e3 j (by omega),e3 j' hlt]at hv
  exact h j j' v v' g g' hjj hlt hv hg hg'
 ·subst heq
  rw[e2 j hjj,e3 j hjj,n2,n3]at hv;obtain⟨l,hl'⟩:∃l,(Ls.take j')[j]?=some l:=⟨_,List.getElem?_eq_getElem (by simp;omega)⟩;obtain⟨vO',vX',_,_,a3,a4,_,_,a7,a8⟩:=hl j l hl'
  rcases hv with⟨h1,h2⟩ | ⟨h1,h2⟩
  ·rw[a3]at h1;cases h1;cases h2
   have:=a7 g hg;have:=hO g' hg';omega
  ·rw[a4]at h1;cases h1;cases h2
   have:=a8 g hg;have:=hX g' hg';omega
set_option maxRecDepth 10000 in
set_option maxHeartbeats 4000000 in
theorem lines56_any (P K B U:Nat)(v0 v1 v2 vL vr:Value)(hs:List Value)(Ls:List Ln)(w:World)(ho:w.heap[P]?=some (.cells #[v0,v1,v2,vL,vr] 210 (0,0)))(hL:w.ownsRow B 72 4 vL K hs)(hr:lnsAt w B U hs Ls)(hK0:0<K)(hK:K≤1000)(hLs:Ls.length=K)(hlen:∀l∈Ls,l.o.length≤1000∧l.x.length≤1001) :
 Calls Tryz.prog 80 #[.pointer (some ⟨P,0,none⟩)] w fun e w'=>∃v hs',e=.returned v∧w'.ownsRow w.heap.size 72 4 v K hs'∧lnsAt w' w.heap.size w'.heap.size hs' Ls∧Sep hs' K∧Fr [] w w':=by
 have H97:=hid (clone_l w B K vL hs hL (by omega) (lns_one hr (by rw[hLs];exact hL.1)));obtain⟨aL,cL,rfl⟩:=owns_slice hL;have p3:=obj_cell ho (i:=3) (v:=.slice aL K cL) rfl;have HR:=hid hr;have HLS:=hid hLs;have HLE:=hid hlen;have hsl:hs.length=K * 4:=hL.1;have HSL:=hid hsl;clear hr hLs hlen hL ho hsl;go_enter Tryz.func80,Tryz.ntmps80;go_wp2_with fail;refine H97.out.mono ?_;rintro e w1 ⟨v',rfl,own1,hf1⟩;obtain⟨g,cg,rfl⟩:=owns_shape hK0 own1;have HO1:=hid own1;have HF1:=hid hf1;clear own1 hf1 H97 p3;go_wp2_with fail;go_loopw [12] (fun a wr=>∃(i:Nat) (hI:List Value),a=.int .i64 i∧i≤K∧Hid (Fr [] w wr)∧Hid (wr.ownsRow w.heap.size 72 4 (.slice (some ⟨g,0,none⟩) K cg) K hI)∧Hid (lnsAt wr w.heap.size wr.heap.size hI (Ls.take i))∧Hid (∀j,i * 4≤j→hI[j]?=hs[j]?)∧Hid (Sep hI i)) (fun a _=>K - (intOf a).toNat)
 case atStart=>exact⟨0,hs,rfl,Nat.zero_le _,HF1,HO1,hid (fun j l hj=>by simp at hj),hid (fun _ _=>rfl),hid (fun j j' v v' g g' h1 h2=>by omega)⟩
 case round =>
  obtain⟨i,hI,rfl,hin,HF,HO,HI,HE,HSP⟩:=hrel;by_cases hlt:i<K
  ·have hiL:i<Ls.length:=by rw[HLS.out];exact hlt
   obtain⟨l,hl⟩:∃l,Ls[i]?=some l:=⟨_,List.getElem?_eq_getElem hiL⟩;obtain⟨hlo,hlx⟩:=HLE.out l (List.mem_of_getElem? hl);obtain⟨vO,vX,a1,a2,a3,a4,a5,a6,_⟩:=HR.out i l hl;have hIl:hI.length=K * 4:=HO.out.1;have H98:=hid (clone_i wr B l.o.length vO _ (owns_fr0 a5 HF.out) (by omega) (intsN_one _));have H99:=hid (fun(X:World) (hX:X.ownsRow B 2 1 vX l.x.length (ints64 l.x))=>clone_x X B l.x.length vX _ hX (by omega) (ints64_uno _));have HA6:=hid (owns_fr0 a6 HF.out);obtain⟨aO,cO,rfl⟩:=owns_slice a5;obtain⟨aX,cX,rfl⟩:=owns_slice a6;have b0:=(HE.out (i * 4) (by omega)).trans a1;have b1:=(HE.out (i * 4+1) (by omega)).trans a2;have b2:=(HE.out (i * 4+2) (by omega)).trans a3;have b3:=(HE.out (i * 4+3) (by omega)).trans a4;have HB0:=hid (And.intro b0 (And.intro b1 b3));have c2:wr.cell? ⟨g,i * 4+2,none⟩=some (.slice aO l.o.length cO):=by rw[HO.out.cellAt _ (by omega)];exact b2
   have HL1:=hid hl;have hiI:(i:Int)<(K:Int):=by omega
   clear a1 a2 a3 a4 a5 a6 b0 b1 b2 b3 hl;go_wp2_with fail;refine H98.out.mono ?_;rintro e w2 ⟨vO',rfl,own2,hf2⟩;have HR2:=hid (owns_fr0 HO.out hf2);have HA62:=hid (owns_fr0 HA6.out hf2);have HW2:=hid own2;have HF2:=hid hf2;obtain⟨aO',cO',rfl⟩:=owns_slice own2;have c2':w2.cell? ⟨g,i * 4+2,none⟩=some (.slice aO l.o.length cO):=hf2.cell c2 List.not_mem_nil;have z2:=HR2.out.frozenAt (i * 4+2);have HS2:=hid (HR2.out.stored (i * 4+2) (.slice aO' l.o.length cO'))
   have HK2:=hid (show ∀B' e v n xs,(e=3∨e=2)→w2.ownsRow B' e 1 v n xs→(w2.setCell ⟨g,i * 4+2,none⟩ (.slice aO' l.o.length cO')).ownsRow B' e 1 v n xs from fun B' e v n xs he h=>owns_kind h HS2.out.2 (fun g' hg'=>by
    cases hg'
    obtain⟨cs,t,f,h1,h2⟩:=owns_type HR2.out (g:=g) rfl
    exact⟨cs,t,f,h1,by rw[h2];rcases he with rfl | rfl <;> decide⟩))
   have H99b:=hid (H99.out _ (HK2.out B 2 _ _ _ (.inr rfl) HA62.out));have c3:w2.cell? ⟨g,i * 4+3,none⟩=some (.slice aX l.x.length cX):=by
    rw[HR2.out.cellAt _ (by omega)];exact HB0.out.2.2
   obtain⟨w3,hw3⟩:∃w3,w3=w2.setCell ⟨g,i * 4+2,none⟩ (.slice aO' l.o.length cO'):=⟨_,rfl⟩;rw[←hw3]at HS2 HK2 H99b;have HWS:=hid hw3;clear own2 hf2 H98 H99 hw3;go_wp2_with fail;rw[←HWS.out];refine H99b.out.mono ?_;rintro e w4 ⟨vX',rfl,own4,hf4⟩;have HR4:=hid (owns_fr0 HS2.out.1 hf4);have HW4:=hid own4;have HF4:=hid hf4;obtain⟨aX',cX',rfl⟩:=owns_slice own4;have c4:∃u,w4.cell? ⟨g,i * 4+3,none⟩=some u:=by
    rw[HR4.out.cellAt _ (by omega),List.getElem?_eq_getElem (by simp;omega)];exact⟨_,rfl⟩
   obtain⟨u4',c4⟩:=c4;have z4:=HR4.out.frozenAt (i * 4+3);have HS4:=hid (HR4.out.stored (i * 4+3) (.slice aX' l.x.length cX'))
   have HK4:=hid (show ∀B' e v n xs,(e=3∨e=2)→w4.ownsRow B' e 1 v n xs→(w4.setCell ⟨g,i * 4+3,none⟩ (.slice aX' l.x.length cX')).ownsRow B' e 1 v n xs from fun B' e v n xs he h=>owns_kind h HS4.out.2 (fun g' hg'=>by
    cases hg'
    obtain⟨cs,t,f,h1,h2⟩:=owns_type HR4.out (g:=g) rfl
    exact⟨cs,t,f,h1,by rw[h2];rcases he with rfl | rfl <;> decide⟩))
   have hg1:=(owns_at HO.out).1;have HG3:=hid (show Fr [] w w3 from(HF.out.trans HF2.out).grown HS2.out.2 (fun k hk=>by cases hk;exact hg1));have HG5:=hid (show Fr [] w (w4.setCell ⟨g,i * 4+3,none⟩ (.slice aX' l.x.length cX'))from(HG3.out.trans HF4.out).grown HS4.out.2 (fun k hk=>by cases hk;exact hg1))
   have HSZ:=hid (show wr.heap.size≤(w4.setCell ⟨g,i * 4+3,none⟩ (.slice aX' l.x.length cX')).heap.size by
    have q1:=HF2.out.size;have q2:=HS2.out.2.size;have q3:=HF4.out.size;have q4:=HS4.out.2.size;omega)
   have HN:=hid (lnsAt.renew (w2:=w4.setCell ⟨g,i * 4+3,none⟩ (.slice aX' l.x.length cX')) HI.out HL1.out (by omega) HB0.out.1 HB0.out.2.1
    (fun e v n xs he h=>HK4.out _ e v n xs he (owns_fr0 (HK2.out _ e v n xs he (owns_fr0 h HF2.out)) HF4.out)) HSZ.out
    (owns_low (HK4.out _ 3 _ _ _ (.inl rfl) (owns_fr0 (HK2.out _ 3 _ _ _ (.inl rfl) HW2.out) HF4.out)) HF.out.size)
    (owns_low (HK4.out _ 2 _ _ _ (.inr rfl) HW4.out) HG3.out.size))
   have HE5:=hid (show ∀j,(i+1) * 4≤j→((hI.set (i * 4+2) (.slice aO' l.o.length cO')).set (i * 4+3) (.slice aX' l.x.length cX'))[j]?=hs[j]? from fun j hj=>by
    rw[List.getElem?_set_ne (by omega),List.getElem?_set_ne (by omega)];exact HE.out j (by omega))
   have HO5:=hid HS4.out.1;have HSP5:=hid (Sep.renew (vO:=.slice aO' l.o.length cO') (vX:=.slice aX' l.x.length cX') HSP.out HI.out (by rw[HLS.out];omega) (by omega) (fun g hg=>(HW2.out.lt g hg).1) (fun g hg=>by have:=(HW4.out.lt g hg).1;have q1:=HF2.out.size;have q2:=HS2.out.2.size;omega));clear own4 hf4 H99b;go_wp2;go_roundw
   case rel=>exact⟨i+1,_,by go_num,by omega,HG5,HO5,HN,HE5,HSP5⟩
   case measure=>simp[intOf];omega
  ·obtain rfl:i=K:=by omega
   have hiI:¬(i:Int)<(i:Int):=by omega
   have HIL:=hid (show lnsAt wr w.heap.size wr.heap.size hI Ls by
    have h:=HI.out
    rw[List.take_of_length_le (by rw[HLS.out];exact Nat.le_refl _)]at h
    exact h)
   go_wp2;go_ret;exact⟨_,rfl,_,HO.out,HIL.out,HSP.out,HF.out⟩
theorem lay_clusters (Q P:Nat)(w:World)(hq:w.cell? ⟨Q,0,none⟩=some (.pointer (some ⟨P,0,none⟩)))(R:Value→World→Prop)(h:Calls Tryz.prog 79 #[.pointer (some ⟨P,0,none⟩)] w fun e w'=>∃v,e=.returned v∧R v w') :
 Calls Tryz.prog 31 #[.pointer (some ⟨Q,0,none⟩)] w fun e w'=>∃v,e=.returned v∧R v w':=by
 have H:=hid h;clear h;go_enter Tryz.func31,Tryz.ntmps31;go_wp2_with fail;refine H.out.mono ?_;rintro e w1 ⟨v,rfl,hr⟩;have HR:=hid hr;clear hr;go_wp2;go_ret;exact⟨_,rfl,HR.out⟩
theorem lay_lines (Q P:Nat)(w:World)(hq:w.cell? ⟨Q,0,none⟩=some (.pointer (some ⟨P,0,none⟩)))(R:Value→World→Prop)(h:Calls Tryz.prog 80 #[.pointer (some ⟨P,0,none⟩)] w fun e w'=>∃v,e=.returned v∧R v w') :
 Calls Tryz.prog 32 #[.pointer (some ⟨Q,0,none⟩)] w fun e w'=>∃v,e=.returned v∧R v w':=by
 have H:=hid h;clear h;go_enter Tryz.func32,Tryz.ntmps32;go_wp2_with fail;refine H.out.mono ?_;rintro e w1 ⟨v,rfl,hr⟩;have HR:=hid hr;clear hr;go_wp2;go_ret;exact⟨_,rfl,HR.out⟩
end Go.Proofs.YtnakejhohdbfdabGreatDoor
namespace Go.Proofs.YtnakejhohdbfdabGreatDoor
open Go.RowKit Lev Lay Bnd
theorem kfit_yes (s:ByteArray)(b:Int)(aW aB:Option Addr)(nW cW nB cB:Nat)(w:World)(h1:s.size≤4096)(h2:nW≤4096)(h3:nB≤4096) :
 Calls Tryz.prog 78 #[.agg #[.string s,.int .i64 b,.slice aW nW cW,.slice aB nB cB]] w fun e w'=>e=.returned (.bool true)∧Fr [] w w':=by
 have h1':(s.size:Int)≤4096:=by omega
 have h2':(nW:Int)≤4096:=by omega
 have h3':(nB:Int)≤4096:=by omega
 go_enter Tryz.func78,Tryz.ntmps78;go_wp2;go_ret;exact⟨rfl,(Fr.refl [] w).alloc _⟩
theorem kfit_no (s:ByteArray)(b:Int)(aW aB:Option Addr)(nW cW nB cB:Nat)(w:World)(h:¬(s.size≤4096∧nW≤4096∧nB≤4096)) :
 Calls Tryz.prog 78 #[.agg #[.string s,.int .i64 b,.slice aW nW cW,.slice aB nB cB]] w fun e w'=>e=.returned (.bool false)∧Fr [] w w':=by
 by_cases h1:s.size≤4096
 ·have h1':(s.size:Int)≤4096:=by omega
  by_cases h2:nW≤4096
  ·have h2':(nW:Int)≤4096:=by omega
   have h3':¬(nB:Int)≤4096:=by omega
   have h4:decide ((nB:Int)≤4096)=false:=by simp;omega
   clear h;go_enter Tryz.func78,Tryz.ntmps78;go_wp2;go_ret;exact⟨rfl,(Fr.refl [] w).alloc _⟩
  ·have h2':¬(nW:Int)≤4096:=by omega
   have h4:decide ((nW:Int)≤4096)=false:=by simp;omega
   clear h;go_enter Tryz.func78,Tryz.ntmps78;go_wp2;go_ret;exact⟨rfl,(Fr.refl [] w).alloc _⟩
 ·have h1':¬(s.size:Int)≤4096:=by omega
  have h4:decide ((s.size:Int)≤4096)=false:=by simp;omega
  clear h;go_enter Tryz.func78,Tryz.ntmps78;go_wp2;go_ret;exact⟨rfl,(Fr.refl [] w).alloc _⟩
set_option maxRecDepth 10000 in
set_option maxHeartbeats 4000000 in
theorem laid_out (s:ByteArray)(b:Int)(aW aB:Option Addr)(nW cW nB cB:Nat)(w:World)(h:¬(s.size≤4096∧nW≤4096∧nB≤4096)) :
 Calls Tryz.prog 30 #[.agg #[.string s,.int .i64 b,.slice aW nW cW,.slice aB nB cB]] w fun e w'=>e=.returned (.pointer none)∧Fr [] w w':=by
 have HFb:=hid (show Fr [] w (w.alloc (.cells #[.string s,.int .i64 b,.slice aW nW cW,.slice aB nB cB] 48))from(Fr.refl [] w).alloc _);have H78:=hid (kfit_no s b aW aB nW cW nB cB (w.alloc (.cells #[.string s,.int .i64 b,.slice aW nW cW,.slice aB nB cB] 48)) h);clear h;go_enter Tryz.func30,Tryz.ntmps30;go_wp2_with fail;refine H78.out.mono ?_;rintro e w1 ⟨rfl,hf1⟩;have HF1:=hid (HFb.out.trans hf1);clear hf1 H78;go_wp2;go_ret;exact⟨rfl,HF1.out⟩
set_option maxRecDepth 10000 in
set_option maxHeartbeats 4000000 in
theorem laid_bad (s:ByteArray)(b:Int)(vW vB:Value)(W Br:List Int)(n:Nat)(w:World)(hF:Floor w)(hend:Dec.Ends s n)(hW:slAd w vW W)(hB:slAd w vB Br)(hs:s.size≤4096)(hWl:W.length≤4096)(hBl:Br.length≤4096)(hck:chk s n (clsOf s n) b W Br≠0) :
 Calls Tryz.prog 30 #[.agg #[.string s,.int .i64 b,vW,vB]] w fun e w'=>e=.returned (.pointer none)∧Fr [] w w':=by
 obtain⟨x,hx⟩:∃x,x=chk s n (clsOf s n) b W Br:=⟨_,rfl⟩;obtain⟨aW,cW,rfl,_⟩:=id hW;obtain⟨aB,cB,rfl,_⟩:=id hB;obtain⟨wb,hwb⟩:∃wb,wb=w.alloc (.cells #[.string s,.int .i64 b,.slice aW W.length cW,.slice aB Br.length cB] 48):=⟨_,rfl⟩;have HFb:=hid (show Fr [] w wb by rw[hwb];exact(Fr.refl [] w).alloc _);have HOb:=hid (show wb.heap[w.heap.size]?=some (.cells #[.string s,.int .i64 b,.slice aW W.length cW,.slice aB Br.length cB] 48 (0,0)) by rw[hwb];exact obj_new w _);have H78:=hid (kfit_yes s b aW aB W.length cW Br.length cB wb hs hWl hBl)
 have HN:=hid (fun(Z:World) (hf:Fr [] w Z)=>newC_bad #[.string s,.int .i64 b,.slice aW W.length cW,.slice aB Br.length cB] s b x aW aB W.length cW Br.length cB Z (hF.fr hf) rfl (fun w' hf'=>by
  refine(ckP_all s b _ _ W Br n w' (hF.fr (hf.trans hf')) hend (hW.at.fr (hf.trans hf')) (by omega) (hB.at.fr (hf.trans hf')) (by omega)).mono ?_
  rintro e w'' ⟨v,rfl,hv,hf2⟩
  rcases hv with h | h
  ·exact absurd h.2 hck
  ·exact⟨v,rfl,by rw[hx];exact h.2,hf2⟩))
 generalize W.length=nW at *;generalize Br.length=nB at *;clear hF hend hW hB hck hx;go_enter Tryz.func30,Tryz.ntmps30;go_wp2_with fail;rw[←hwb];clear hwb;refine H78.out.mono ?_;rintro e w1 ⟨rfl,hf1⟩;have HF1:=hid (HFb.out.trans hf1);have HO1:=hid (obj_fr HOb.out hf1 List.not_mem_nil);have c0:=obj_cell HO1.out (i:=0) (v:=.string s) rfl;have c1:=obj_cell HO1.out (i:=1) (v:=.int .i64 b) rfl;have c2:=obj_cell HO1.out (i:=2) (v:=.slice aW nW cW) rfl;have c3:=obj_cell HO1.out (i:=3) (v:=.slice aB nB cB) rfl;clear hf1 H78;go_wp2_with fail;refine(HN.out _ HF1.out).mono ?_;rintro e w2 ⟨rfl,hf2⟩;have HF2:=hid (HF1.out.trans hf2);clear hf2 c0 c1 c2 c3;go_wp2;go_ret;exact⟨rfl,HF2.out⟩
set_option maxRecDepth 10000 in
set_option maxHeartbeats 4000000 in
theorem laid_good (s:ByteArray)(b:Int)(vW vB:Value)(W Br:List Int)(w:World)(hF:Floor w)(hW:slAd w vW W)(hB:slAd w vB Br)(hs:s.size≤4096)(hWl:W.length≤4096)(hBl:Br.length≤4096)
 (Bd V X:List Int) (r bs:Int) (Cs:List (Int × Int × Int × Int)) (Ls:List Ln) (T:Twin s b W Br Bd V X r bs Cs Ls) :
 Calls Tryz.prog 30 #[.agg #[.string s,.int .i64 b,vW,vB]] w fun e w'=>∃Q P v0 v1 v2 vL hs,e=.returned (.pointer (some ⟨Q,0,none⟩))∧w'.heap[Q]?=some (.cells #[.pointer (some ⟨P,0,none⟩)] 143 (0,0))∧w.heap.size≤Q∧(∃B,w.heap.size≤B∧LP w' B P Bd V X r Ls v0 v1 v2 vL hs)∧Fr [] w w':=by
 obtain⟨aW,cW,rfl,_⟩:=id hW;obtain⟨aB,cB,rfl,_⟩:=id hB;obtain⟨wb,hwb⟩:∃wb,wb=w.alloc (.cells #[.string s,.int .i64 b,.slice aW W.length cW,.slice aB Br.length cB] 48):=⟨_,rfl⟩;have HFb:=hid (show Fr [] w wb by rw[hwb];exact(Fr.refl [] w).alloc _);have HOb:=hid (show wb.heap[w.heap.size]?=some (.cells #[.string s,.int .i64 b,.slice aW W.length cW,.slice aB Br.length cB] 48 (0,0)) by rw[hwb];exact obj_new w _);have H78:=hid (kfit_yes s b aW aB W.length cW Br.length cB wb hs hWl hBl);have HN:=hid (fun(Z:World) (hf:Fr [] w Z)=>newC_good #[.string s,.int .i64 b,.slice aW W.length cW,.slice aB Br.length cB] s b aW aB W.length cW Br.length cB Z rfl Bd V X r Ls (fun w' hf'=>T.p w' _ _ (hF.fr (hf.trans hf')) (hW.at.fr (hf.trans hf')) (hB.fr (hf.trans hf'))));generalize W.length=nW at *;generalize Br.length=nB at *;clear hF hW hB T;go_enter Tryz.func30,Tryz.ntmps30;go_wp2_with fail;rw[←hwb];clear hwb;refine H78.out.mono ?_;rintro e w1 ⟨rfl,hf1⟩;have HF1:=hid (HFb.out.trans hf1);have HO1:=hid (obj_fr HOb.out hf1 List.not_mem_nil);have c0:=obj_cell HO1.out (i:=0) (v:=.string s) rfl;have c1:=obj_cell HO1.out (i:=1) (v:=.int .i64 b) rfl;have c2:=obj_cell HO1.out (i:=2) (v:=.slice aW nW cW) rfl;have c3:=obj_cell HO1.out (i:=3) (v:=.slice aB nB cB) rfl;clear hf1 H78;go_wp2_with fail;refine(HN.out _ HF1.out).mono ?_;rintro e w2 ⟨Q,P,v0,v1,v2,vL,hs2,rfl,hQ,hQ0,hLP,hf2⟩;have hz1:=HF1.out.size;have HF2:=hid (HF1.out.trans hf2);have HQ:=hid hQ;have HLP:=hid hLP;have hQ1:w.heap.size≤Q:=by omega
 clear hf2 c0 c1 c2 c3 hQ hLP hQ0;go_wp2;go_ret;exact⟨Q,P,v0,v1,v2,vL,hs2,rfl,HQ.out,hQ1,⟨_,by omega,HLP.out⟩,HF2.out⟩
abbrev sA:ByteArray:=⟨#[97,98,215,144,215,145]⟩
abbrev lA:Ln:=⟨0,6,[0,1,3,2],[0,10,20,30,40]⟩
theorem alive_chk:chk sA 4 (clsOf sA 4) 0 [10,10,10,10] []=0:=by kernel_rfl
theorem alive_lns:lns sA 4 (baseOf (Kl sA 4) 0) [10,10,10,10] [] 1=[lA]:=by kernel_rfl
theorem alive_ends:Dec.Ends sA 4:=by
 refine⟨by kernel_rfl,?_⟩;intro k hk;have h:k=0∨k=1∨k=2∨k=3:=by omega
 rcases h with rfl | rfl | rfl | rfl <;> exact of_decide_eq_true (by kernel_rfl)
theorem alive_new (w:World)(vW vB:Value)(hF:Floor w)(hW:slAt w vW [10,10,10,10])(hB:slAd w vB []) :
 Calls Tryz.prog 93 #[.agg #[.string sA,.int .i64 0,vW,vB]] w fun e w'=>∃P v0 v1 v2 vL hs,e=.returned (.tuple #[.pointer (some ⟨P,0,none⟩),.nilIface])∧LP w' w.heap.size P (bnd sA 4) (lvE sA 4 (baseOf (Kl sA 4) 0) []) (wl sA [10,10,10,10] 4) (1 - 2 * baseOf (Kl sA 4) 0) [lA] v0 v1 v2 vL hs∧Fr [] w w':=by
 have h:=newP_pos sA 0 vW vB [10,10,10,10] [] 4 w (of_decide_eq_true (by kernel_rfl)) (.inl rfl) hF alive_ends (by decide) hW hB (by decide) alive_chk;rw[show([]:List Int).length+1=1 from rfl,alive_lns]at h;exact h
set_option maxRecDepth 10000 in
set_option maxHeartbeats 4000000 in
theorem alive_any (w:World)(hF:Floor w):Calls Tryz.prog 29 #[] w fun e w'=>e=.returned (.bool true)∧Fr [] w w':=by
 obtain⟨wa,hwa⟩:∃wa,wa=w.alloc (.cells #[.int .i64 10,.int .i64 10,.int .i64 10,.int .i64 10] 3):=⟨_,rfl⟩;have HFa:=hid (show Fr [] w wa by rw[hwa];exact(Fr.refl [] w).alloc _)
 have HW:=hid (show slAt wa (.slice (some ⟨w.heap.size,0,none⟩) 4 4) [10,10,10,10] by
  refine⟨some ⟨w.heap.size,0,none⟩,4,rfl,.inr ⟨w.heap.size,0,rfl,?_⟩⟩
  have ho:wa.heap[w.heap.size]?=some (.cells #[.int .i64 10,.int .i64 10,.int .i64 10,.int .i64 10] 3 (0,0)):=by rw[hwa];exact obj_new w _
  intro i hi
  have h:i=0∨i=1∨i=2∨i=3:=by simp at hi;omega
  rcases h with rfl | rfl | rfl | rfl <;> exact obj_cell ho rfl)
 have H47:=hid (newC_good #[.string sA,.int .i64 0,.slice (some ⟨w.heap.size,0,none⟩) 4 4,.slice none 0 0] sA 0 (some ⟨w.heap.size,0,none⟩) none 4 4 0 0 wa rfl _ _ _ _ [lA]
  (fun w' hf=>alive_new w' _ _ (hF.fr (HFa.out.trans hf)) (HW.out.fr hf) ⟨none,0,rfl,.inl ⟨rfl,rfl,rfl⟩⟩))
 clear hF HW;go_enter Tryz.func29,Tryz.ntmps29;go_wp2_with fail;rw[←hwa];clear hwa;refine H47.out.mono ?_;rintro e w1 ⟨Q,P,v0,v1,v2,vL,hs,rfl,hQ,_,hLP,hf1⟩;have HF1:=hid (HFa.out.trans hf1);have q0:=obj_cell hQ (i:=0) (v:=.pointer (some ⟨P,0,none⟩)) rfl
 have H32:=hid (lay_lines Q P w1 q0 (fun v w'=>∃hs',w'.ownsRow w1.heap.size 72 4 v 1 hs'∧lnsAt w' w1.heap.size w'.heap.size hs' [lA]∧Fr [] w1 w') (by
  obtain⟨U,_,hn⟩:=hLP.n
  refine(lines56_any P 1 _ U v0 v1 v2 vL _ hs _ w1 hLP.o hLP.l hn (by decide) (by decide) rfl (by simp)).mono ?_
  rintro e w' ⟨v,hs',rfl,h1,h2,_,h4⟩
  exact⟨v,rfl,hs',h1,h2,h4⟩))
 clear hQ hLP hf1 q0 H47;go_wp2_with fail;refine H32.out.mono ?_;rintro e w2 ⟨vN,rfl,hs',own2,hl2,hf2⟩;have HF2:=hid (HF1.out.trans hf2);obtain⟨gN,cN,rfl⟩:=owns_shape (by decide) own2;obtain⟨vO,vX,a1,a2,a3,a4,a5,a6,_⟩:=hl2 0 _ rfl;obtain⟨gO,cO,rfl⟩:=owns_shape (by decide) a5;obtain⟨gX,cX,rfl⟩:=owns_shape (by decide) a6;have hl:=own2.1;have n2:w2.cell? ⟨gN,2,none⟩=some (.slice (some ⟨gO,0,none⟩) 4 cO):=by rw[own2.cellAt 2 (by omega)];exact a3
 have n3:w2.cell? ⟨gN,3,none⟩=some (.slice (some ⟨gX,0,none⟩) 5 cX):=by rw[own2.cellAt 3 (by omega)];exact a4
 have r5:=owns_rowN a5 rfl;have o0:=r5 0 (by decide);have o1:=r5 1 (by decide);have o2:=r5 2 (by decide);have o3:=r5 3 (by decide);have x4:w2.cell? ⟨gX,4,none⟩=some (.int .i64 40):=by rw[a6.cellAt 4 (by decide)];rfl
 clear own2 hl2 hf2 a1 a2 a3 a4 a5 a6 r5 hl H32;go_wp2;go_ret;exact⟨rfl,HF2.out⟩
def near (x hi:Int):Int:=if x<0 then 0 else if hi<x then hi else x
theorem near_in {x hi:Int}(h:0≤hi):0≤near x hi∧near x hi≤hi:=by unfold near;split <;> (try split) <;> omega
def sideP (Bd V:List Int)(c:Nat)(right:Bool):Int × Bool:=if right=(nth V c % 2 == 1)then(nth Bd c,false)else(nth Bd (c+1),true)
def lnN (Ls:List Ln)(i:Nat):Ln:=Ls[i]?.getD ⟨0,0,[],[]⟩
def normP (Bd V:List Int)(Ls:List Ln)(line gap:Int):Int × Bool :=
 let o:=(lnN Ls (near line (Ls.length - 1)).toNat).o
 let k:=(near gap o.length).toNat
 if o.length=0 then(0,false)else if k=0 then sideP Bd V (nix o 0) false else sideP Bd V (nix o (k - 1)) true
def bestTo (X:List Int)(x:Int):Nat→Nat
 | 0=>0
 | k+1=>if(nth X k - x).natAbs<(nth X (bestTo X x k) - x).natAbs then k else bestTo X x k
theorem bestTo_lt (X:List Int)(x:Int):∀k,0<k→bestTo X x k<k
 | 0,h=>by omega
 | k+1,_=>by
   rw[bestTo];split
   ·omega
   ·rcases Nat.eq_zero_or_pos k with h | h
    ·subst h;exact Nat.one_pos
    ·have:=bestTo_lt X x k h;omega
theorem bestTo_near {X:List Int}{x hi:Int}(h:∀k,k<X.length→0≤nth X k∧nth X k≤hi):∀k,k≤X.length→bestTo X (near x hi) k=bestTo X x k
 | 0,_=>rfl
 | k+1,hk=>by
   have ih:=bestTo_near (x:=x) h k (by omega);rw[bestTo,bestTo,ih];have h1:=h k (by omega);have h2:0≤nth X (bestTo X x k)∧nth X (bestTo X x k)≤hi:=by
    rcases Nat.eq_zero_or_pos k with h0 | h0
    ·subst h0;exact h 0 (by omega)
    ·exact h _ (by have:=bestTo_lt X x k h0;omega)
   have e:((nth X k - near x hi).natAbs<(nth X (bestTo X x k) - near x hi).natAbs) ↔ ((nth X k - x).natAbs<(nth X (bestTo X x k) - x).natAbs):=by
    unfold near;split
    ·omega
    ·split <;> omega
   by_cases hc:(nth X k - x).natAbs<(nth X (bestTo X x k) - x).natAbs
   ·rw[if_pos hc,if_pos (e.2 hc)]
   ·rw[if_neg hc,if_neg (fun hh=>hc (e.1 hh))]
def hitP (Bd V:List Int)(Ls:List Ln)(line x:Int):Int × Bool :=
 let X:=(lnN Ls (near line (Ls.length - 1)).toNat).x
 normP Bd V Ls (near line (Ls.length - 1)) (bestTo X x X.length:Nat)
structure Tame (Bd V:List Int)(Ls:List Ln):Prop where
 vb:∀i,0≤nth V i∧nth V i≤1000
 ob:∀l∈Ls,∀k∈l.o,k<V.length
 xl:∀l∈Ls,l.x.length=l.o.length+1
 xb:∀l∈Ls,∀k,k<l.x.length→0≤nth l.x k∧nth l.x k≤nth l.x (l.x.length - 1)∧nth l.x k≤1000000000000000
theorem xsum_mono {f:Nat→Int}{o:List Nat}{M:Int}(h:∀j,0≤f j∧f j≤M):∀k d,xsum f o k≤xsum f o (k+d)∧xsum f o (k+d)≤xsum f o k+d * M
 | k,0=>by simp
 | k,d+1=>by
   have ih:=xsum_mono (o:=o) h k d;have hh:=h (nix o (k+d));rw[show k+(d+1)=(k+d)+1 from rfl,xsum];have e:((d+1:Nat):Int) * M=(d:Int) * M+M:=by rw[Int.natCast_add,Int.add_mul];simp
   rw[e];omega
theorem lnN_mem {Ls:List Ln}{i:Nat}(h:i<Ls.length):lnN Ls i∈Ls:=by
 rw[lnN,List.getElem?_eq_getElem h];exact List.getElem_mem _
theorem nix_le {s:ByteArray}{n:Nat}(k:Nat):nix (bix s n) k≤n:=by
 by_cases hk:k<cn s n
 ·exact Nat.le_of_lt (bix_in hk)
 ·have hl:=(bix_len s n).2.1
  by_cases hk2:k=cn s n
  ·rw[hk2,bix_last];exact Nat.le_refl _
  ·rw[nix,List.getElem?_eq_none (by unfold cn at hk hk2;omega)];exact Nat.zero_le _
theorem tame_pos {s:ByteArray}{n:Nat}(hn:0<n)(hn4:n≤400){bs:Int}(hb:bs=0∨bs=1){W Br:List Int}(hW:∀i,0≤nth W i∧nth W i≤1073741824)(E:Edges s n Br)(hc:cn s n≤400):Tame (bnd s n) (lvE s n bs Br) (lns s n bs W Br (Br.length+1)):=by
 have hvl:(lvE s n bs Br).length=cn s n:=by rw[lvE,lvs_len,←cn_begs hn]
 have hwid:∀k,0≤wid W (nix (bix s n) k) (nix (bix s n) (k+1))∧wid W (nix (bix s n) k) (nix (bix s n) (k+1))≤429496729600:=fun k=>by
  have h1:=wid_bound W 1073741824 hW (nix (bix s n) k) (nix (bix s n) (k+1) - nix (bix s n) k);have h2:=nix_le (s:=s) (n:=n) (k+1);unfold wid;omega
 have hl:∀l∈lns s n bs W Br (Br.length+1),∃a b,a≤b∧b≤cn s n∧l=lnOf (Dec.pos s) (nix (bix s n)) (evOf s n bs Br) W a b:=fun l hl=>by
  obtain⟨j,hj,rfl⟩:=List.mem_map.1 hl;have hj:=List.mem_range.1 hj;exact⟨_,_,Nat.le_of_lt (E.mono j (j+1) (by omega) (by omega)),E.le (j+1) (by omega),rfl⟩
 refine⟨lvs_in (fun i=>?_),fun l hm k hk=>?_,fun l hm=>?_,fun l hm k hk=>?_⟩
 ·by_cases hi:i<n
  ·rw[mixL_all (by rw[levels_len _ _ _ hb,Kl_len];exact hi)]
   have:=elv_bound (Rl s n) (Kl s n) bs hb (edg (bix s n) (bnd s n) Br) i;omega
  ·rw[nth_over (by rw[mixL_len,levels_len _ _ _ hb,Kl_len];omega)];decide
 ·obtain⟨a,b,hab,hbc,rfl⟩:=hl l hm
  obtain⟨t,ht,rfl⟩:=List.mem_map.1 (show k∈(ordD _ (b - a)).map _ from hk);have:=ordD_lt _ _ t ht;rw[hvl];omega
 ·obtain⟨a,b,hab,hbc,rfl⟩:=hl l hm
  unfold lnOf;dsimp only;rw[xs_len,List.length_map,ordD_len]
 ·obtain⟨a,b,hab,hbc,rfl⟩:=hl l hm
  unfold lnOf at hk ⊢;dsimp only at hk ⊢;rw[xs_len]at hk ⊢;rw[xs_at _ _ (by omega),xs_at _ _ (by omega)];have m1:=xsum_mono (f:=fun k=>wid W (nix (bix s n) k) (nix (bix s n) (k+1))) (o:=(ordD (fun t=>evOf s n bs Br (nix (bix s n) (a+t))) (b - a)).map (fun t=>t+a)) hwid 0 k;have m2:=xsum_mono (f:=fun k=>wid W (nix (bix s n) k) (nix (bix s n) (k+1))) (o:=(ordD (fun t=>evOf s n bs Br (nix (bix s n) (a+t))) (b - a)).map (fun t=>t+a)) hwid k (b - a - k);rw[Nat.zero_add]at m1;rw[show k+(b - a - k)=b - a+1 - 1 by omega]at m2;have e0:xsum (fun k=>wid W (nix (bix s n) k) (nix (bix s n) (k+1))) ((ordD (fun t=>evOf s n bs Br (nix (bix s n) (a+t))) (b - a)).map (fun t=>t+a)) 0=0:=rfl;rw[e0]at m1;refine⟨m1.1,m2.1,Int.le_trans m1.2 ?_⟩;omega
theorem tame_nil:Tame [0] [] [ln0]:=by
 refine⟨fun i=>?_,fun l hl k hk=>?_,fun l hl=>?_,fun l hl k hk=>?_⟩
 ·rw[nth_over (by simp)];decide
 ·rw[List.mem_singleton.1 hl]at hk;cases hk
 ·rw[List.mem_singleton.1 hl];rfl
 ·rw[List.mem_singleton.1 hl]at hk ⊢
  obtain rfl:k=0:=by simp[ln0]at hk;exact hk
  decide
theorem near_eq (x hi:Int)(h:0≤hi):min (max x 0) hi=near x hi:=by unfold near;split <;> (try split) <;> omega
theorem nearP_any (x hi:Int)(w:World)(h:0≤hi):Calls Tryz.prog 148 #[.int .i64 x,.int .i64 hi] w fun e w'=>e=.returned (.int .i64 (near x hi))∧w'=w:=by
 rw[←near_eq x hi h];go_enter Tryz.func148,Tryz.ntmps148;go_wp2;go_ret;exact⟨rfl,rfl⟩
theorem nearL_any (a:Option Addr)(K c:Nat)(x:Int)(w:World)(h0:0<K)(hK:K≤100000):Calls Tryz.prog 147 #[.slice a K c,.int .i64 x] w fun e w'=>e=.returned (.int .i64 (near x ((K:Int) - 1)))∧w'=w:=by
 have HC:=hid (fun X:World=>nearP_any x ((K:Int) - 1) X (by omega));have hw1:IntKind.i64.wrap ((K:Int) - 1)=(K:Int) - 1:=by rw[IntKind.wrap_i64];omega
 generalize near x ((K:Int) - 1)=y at *;go_enter Tryz.func147,Tryz.ntmps147;go_wp2_with (go_at_call 148;refine(HC.out _).mono ?_;rintro e w' ⟨rfl,rfl⟩);go_ret;exact⟨rfl,rfl⟩
theorem dist_any (a b:Int)(w:World)(ha:-1000000000000000000≤a∧a≤1000000000000000000)(hb:-1000000000000000000≤b∧b≤1000000000000000000):Calls Tryz.prog 256 #[.int .i64 a,.int .i64 b] w fun e w'=>e=.returned (.int .i64 ((a - b).natAbs:Nat))∧w'=w:=by
 have HE:=hid (show max (a - b) (b - a)=((a - b).natAbs:Nat) by omega);have hw1:IntKind.i64.wrap (a - b)=a - b:=by rw[IntKind.wrap_i64];omega
 have hw2:IntKind.i64.wrap (b - a)=b - a:=by rw[IntKind.wrap_i64];omega
 rw[←HE.out];go_enter Tryz.func256,Tryz.ntmps256;go_wp2;go_ret;exact⟨rfl,rfl⟩
set_option maxRecDepth 10000 in
set_option maxHeartbeats 2000000 in
theorem gapNear_any (X:List Int)(x hi:Int)(g m c:Nat)(w:World)(hm:m=X.length)(hm0:0<m)(hm1:m≤100000)(hr:rowAt w g m X)(hX:∀k,k<X.length→0≤nth X k∧nth X k≤hi)(hl:nth X (m - 1)=hi)(hhi:hi≤1000000000000000) :
 Calls Tryz.prog 159 #[.slice (some ⟨g,0,none⟩) m c,.int .i64 x] w fun e w'=>e=.returned (.int .i64 (bestTo X x m:Nat))∧Fr [] w w':=by
 have hhi0:0≤hi:=by have:=hX (m - 1) (by omega);omega
 have HBE:=hid (show bestTo X (near x hi) m=bestTo X x m by rw[hm];exact bestTo_near hX _ (Nat.le_refl _));have hni:=near_in (x:=x) hhi0;have HNE:=hid (near_eq x hi hhi0);have c0:=hr (m - 1) (by omega);rw[hl]at c0;have HR:=hid hr;have HXB:=hid (show ∀k,k<m→0≤nth X k∧nth X k≤hi by rw[hm];exact hX);rw[←HBE.out];have hw1:IntKind.i64.wrap ((m:Int) - 1)=((m - 1:Nat):Int):=by rw[IntKind.wrap_i64];omega
 have hlt1:((m - 1:Nat):Int)<(m:Int):=by omega
 generalize hx':near x hi=x' at *;obtain⟨m1,hm1'⟩:∃m1,m1=m - 1:=⟨_,rfl⟩;rw[←hm1']at c0 hw1 hlt1;clear hX hr hm hl hx' hm1';go_enter Tryz.func159,Tryz.ntmps159;go_wp2_with fail;rw[HNE.out];go_loopw [5,19] (fun vb vk wr=>∃k:Nat,vk=.int .i64 k∧k≤m∧vb=.int .i64 (bestTo X x' k:Nat)∧Hid (∃q,wr=w.drewN q)) (fun _ vk _=>m - (intOf vk).toNat)
 case atStart=>exact⟨0,rfl,Nat.zero_le _,rfl,hid ⟨0,rfl⟩⟩
 case round =>
  obtain⟨k,rfl,hk,rfl,HQ⟩:=hrel;have HF:=hid (show Fr [] w wr by obtain⟨q,h⟩:=HQ.out;rw[h];exact fr_drewN w q);by_cases hlt:k<m
  ·have hkI:(k:Int)<(m:Int):=by omega
   have HBL:=hid (show bestTo X x' k<m by
    rcases Nat.eq_zero_or_pos k with h | h
    ·subst h;exact hm0
    ·have:=bestTo_lt X x' k h;omega)
   have HST:=hid (show bestTo X x' (k+1)=if(nth X k - x').natAbs<(nth X (bestTo X x' k) - x').natAbs then k else bestTo X x' k from rfl);have c1:=HF.out.cell (HR.out k hlt) List.not_mem_nil;have c2:=HF.out.cell (HR.out _ HBL.out) List.not_mem_nil;have b1:=HXB.out k hlt;have b2:=HXB.out _ HBL.out;have hBI:((bestTo X x' k:Nat):Int)<(m:Int):=by have:=HBL.out;omega
   obtain⟨B2,hB2⟩:∃B2,B2=bestTo X x' (k+1):=⟨_,rfl⟩;rw[←hB2]at HST;have HBB:=hid hB2;clear hB2;generalize bestTo X x' k=B1 at *;generalize nth X k=y1 at *;generalize nth X B1=y2 at *;have HD:=hid (fun(a:Int) (Y:World) (h0:0≤a∧a≤hi)=>dist_any a x' Y (by omega) (by omega));by_cases hc:(y1 - x').natAbs<(y2 - x').natAbs
   ·have hcI:(((y1 - x').natAbs:Nat):Int)<(((y2 - x').natAbs:Nat):Int):=by omega
    have HB2:=hid (show B2=k by rw[HST.out,if_pos hc]);have HB12:=hid (And.intro b1 b2);clear b1 b2 HST;go_wp2_with fail;go_quiet (first | (go_at_call 256;exact Calls.quiet_of_same (HD.out _ _ (by first | exact HB12.out.1 | exact HB12.out.2))));go_wp2;go_roundw
    case rel=>exact⟨k+1,by go_num,by omega,by rw[←HBB.out,HB2.out],hid (by obtain⟨q,h⟩:=HQ.out;exact⟨q+nq,by rw[h,World.drewN_drewN]⟩)⟩
    case measure=>simp[intOf];omega
   ·have hcI:¬(((y1 - x').natAbs:Nat):Int)<(((y2 - x').natAbs:Nat):Int):=by omega
    have hcd:decide ((((y1 - x').natAbs:Nat):Int)<(((y2 - x').natAbs:Nat):Int))=false:=by simpa using hcI
    have HB2:=hid (show B2=B1 by rw[HST.out,if_neg hc]);have HB12:=hid (And.intro b1 b2);clear b1 b2 HST;go_wp2_with fail;go_quiet (first | (go_at_call 256;exact Calls.quiet_of_same (HD.out _ _ (by first | exact HB12.out.1 | exact HB12.out.2))));go_wp2;go_roundw
    case rel=>exact⟨k+1,by go_num,by omega,by rw[←HBB.out,HB2.out],hid (by obtain⟨q,h⟩:=HQ.out;exact⟨q+nq,by rw[h,World.drewN_drewN]⟩)⟩
    case measure=>simp[intOf];omega
  ·obtain rfl:k=m:=by omega
   have hkI:¬(k:Int)<(k:Int):=by omega
   go_wp2;go_ret;exact⟨rfl,HF.out⟩
end Go.Proofs.YtnakejhohdbfdabGreatDoor

import Derived.Test.YtnakejhohdbfdabGreatDoorKQcB
import Derived.Test.YtnakejhohdbfdabGreatDoorKQcH
import Derived.Test.YtnakejhohdbfdabGreatDoorKPwK
import Derived.Test.YtnakejhohdbfdabGreatDoorKMb
namespace Go.Proofs.YtnakejhohdbfdabGreatDoor
open Go.RowKit Lev Lay Bnd
set_option maxRecDepth 10000 in
theorem gapP_nil (B P:Nat)(Bd V X:List Int)(r:Int)(Ls:List Ln)(v0 v1 v2 vL:Value)(hs:List Value)(off:Int)(back:Bool)(w:World)(h:LP w B P Bd V X r Ls v0 v1 v2 vL hs)(hV:V.length=0) :
 Calls Tryz.prog 84 #[.pointer (some ⟨P,0,none⟩),.agg #[.int .i64 off,.bool back]] w fun e w'=>e=.returned (.agg #[.int .i64 0,.int .i64 0])∧Fr [] w w':=by
 obtain⟨a,c,hv,_⟩:=h.v;rw[hV]at hv;subst hv;have p1:=obj_cell h.o (i:=1) (v:=.slice a 0 c) rfl;have hPl:P<w.heap.size:=World.block_lt_of_cell? _ _ p1;obtain⟨w2,hw2⟩:∃w2,w2=(w.alloc (.cells #[.int .i64 off,.bool back] 35)).alloc (.cells #[.int .i64 0,.int .i64 0] 37):=⟨_,rfl⟩;have HF2:=hid (show Fr [] w w2 by rw[hw2];exact((Fr.refl _ _).alloc _).alloc _)
 have HR2:=hid (show w2.heap[w.heap.size+1]?=some (.cells #[.int .i64 0,.int .i64 0] 37 (0,0)) by
  have hs:(w.alloc (.cells #[.int .i64 off,.bool back] 35)).heap.size=w.heap.size+1:=by simp
  have h0:=obj_new (w.alloc (.cells #[.int .i64 off,.bool back] 35)) (.cells #[.int .i64 0,.int .i64 0] 37)
  rw[hs]at h0
  rw[hw2];exact h0)
 have HW2:=hid hw2;clear h hV hw2;go_enter Tryz.func84,Tryz.ntmps84;go_wp2;rw[←HW2.out];refine bodyPost_ret (results_cell_row (t:=37) (fr:=(0,0)) rfl _ _ (w.heap.size+1) _ _ rfl HR2.out Tryz.underlying37 rfl (by kernel_rfl)) rfl ?_;exact⟨rfl,HF2.out⟩
theorem gapP_all (B P:Nat)(Bd V X:List Int)(r z:Int)(Ls:List Ln)(v0 v1 v2 vL:Value)(hs:List Value)(off:Int)(back:Bool)(w:World)(h:LP w B P Bd V X r Ls v0 v1 v2 vL hs)(F:Fine Bd V z Ls)(hz:0≤z)(T:Tame Bd V Ls)(hv4:V.length≤400)(hK:Ls.length≤400)(hlo:∀l∈Ls,l.o.length≤1000) :
 Calls Tryz.prog 84 #[.pointer (some ⟨P,0,none⟩),.agg #[.int .i64 off,.bool back]] w fun e w'=>e=.returned (.agg #[.int .i64 ((gapL Bd V z Ls off back).1:Nat),.int .i64 ((gapL Bd V z Ls off back).2:Nat)])∧Fr [] w w':=by
 by_cases hV:V.length=0
 ·rw[show gapL Bd V z Ls off back=(0,0) by unfold gapL;rw[if_pos hV]]
  exact gapP_nil B P Bd V X r Ls v0 v1 v2 vL hs off back w h hV
 ·obtain⟨c,i,k,hc,e1,e2,hi,hk⟩:=F.gap (by omega) off back
  rw[gapL_eq (by omega) e1 hi hk];exact gapP_any B P Bd V X r z Ls v0 v1 v2 vL hs off _ back _ c i k w h F.rs hz T F.bd hv4 hK hlo rfl hc e1 hi hk
theorem best_le (X:List Int)(x:Int):∀k j,j<k→(nth X (bestTo X x k) - x).natAbs≤(nth X j - x).natAbs∧((nth X j - x).natAbs=(nth X (bestTo X x k) - x).natAbs→bestTo X x k≤j)
 | 0,j,h=>by omega
 | k+1,j,h=>by
   rw[bestTo];by_cases hc:(nth X k - x).natAbs<(nth X (bestTo X x k) - x).natAbs
   ·rw[if_pos hc]
    rcases Nat.lt_or_eq_of_le (Nat.le_of_lt_succ h)with hj | hj
    ·have:=best_le X x k j hj
     exact⟨by omega,fun e=>by omega⟩
    ·subst hj
     exact⟨Nat.le_refl _,fun _=>Nat.le_refl _⟩
   ·rw[if_neg hc]
    rcases Nat.lt_or_eq_of_le (Nat.le_of_lt_succ h)with hj | hj
    ·exact best_le X x k j hj
    ·subst hj
     refine⟨by omega,fun _=>?_⟩
     rcases Nat.eq_zero_or_pos j with h0 | h0
     ·subst h0;exact Nat.le_refl _
     ·exact Nat.le_of_lt (bestTo_lt X x j h0)
theorem hit_gap {Bd V:List Int}{z:Int}{Ls:List Ln}(F:Fine Bd V z Ls)(T:Tame Bd V Ls)(one:V.length=0→Ls.length=1){i:Nat}(hi:i<Ls.length)(x:Int) :
 gapL Bd V z Ls (hitP Bd V Ls i x).1 (hitP Bd V Ls i x).2=(i,bestTo (lnN Ls i).x x (lnN Ls i).x.length):=by
 have hx:=T.xl _ (lnN_mem hi);have hb:=bestTo_lt (lnN Ls i).x x (lnN Ls i).x.length (by omega);by_cases h0:0<V.length
 ·have e:hitP Bd V Ls i x=normP Bd V Ls i (bestTo (lnN Ls i).x x (lnN Ls i).x.length:Nat):=by
   have hn:near (i:Int) ((Ls.length:Int) - 1)=(i:Int):=by unfold near;split <;> (try split) <;> omega
   unfold hitP;rw[hn];rfl
  rw[e];exact(gap_norm F h0 hi (by omega)).2
 ·have hV:V.length=0:=by omega
  have h1:=one hV;obtain rfl:i=0:=by omega
  have ho:(lnN Ls 0).o.length=0:=by
   rcases Nat.eq_zero_or_pos (lnN Ls 0).o.length with h | h
   ·exact h
   ·have:=(F.on 0 hi (nix (lnN Ls 0).o 0) (nix_mem' h)).1
    omega
  rw[gapL,if_pos hV];have:bestTo (lnN Ls 0).x x (lnN Ls 0).x.length=0:=by omega
  rw[this]
theorem keep_all (s:ByteArray)(b:Int)(W Br:List Int)(n:Nat)(hend:Dec.Ends s n)(hBl:Br.length≤5000)(hck:chk s n (clsOf s n) b W Br=0):∃Bd V X r bs Cs Ls,Twin s b W Br Bd V X r bs Cs Ls∧Tame Bd V Ls∧Fine Bd V (s.size:Nat) Ls∧(V.length=0→Ls.length=1)∧(0<V.length→Edges s n Br∧0<n∧(bs=0∨bs=1)∧Bd=bnd s n∧V=lvE s n bs Br∧Ls=lns s n bs W Br (Br.length+1)):=by
 obtain⟨hs,hb⟩:=chk_zero' hck;obtain⟨hWl,hw,hbr⟩:=chk_zero hend hs hb hck;by_cases hn:0<n
 ·have hE:=edges_ok hend hn Br hbr
  have hn4:n≤400:=by have:=Dec.le_pos s n;have:=hend.1;omega
  have hcn:cn s n≤400:=by have:=bix_len s n;unfold cn;omega
  have hB4:Br.length+1≤400:=by
   have h1:=ei_ge hE (Br.length+1) (Nat.le_refl _);have h2:=hE.le (Br.length+1) (Nat.le_refl _);unfold eiOf at h1;omega
  have hvl:(lvE s n (baseOf (Kl s n) b) Br).length=cn s n:=by rw[lvE,lvs_len,←cn_begs hn]
  have hc0:0<cn s n:=by
   have h1:=ei_ge hE (Br.length+1) (Nat.le_refl _);have h2:=hE.le (Br.length+1) (Nat.le_refl _);unfold eiOf at h1;omega
  have hWB:∀i,0≤nth W i∧nth W i≤1073741824:=fun i=>by
   by_cases hi:i<n
   ·exact wOk_at hw hi
   ·rw[nth_over (by omega)];decide
  refine⟨bnd s n,lvE s n (baseOf (Kl s n) b) Br,wl s W n,1 - 2 * baseOf (Kl s n) b,baseOf (Kl s n) b,clst (Dec.pos s) (nix (bix s n)) (evOf s n (baseOf (Kl s n) b) Br) W (cn s n),lns s n (baseOf (Kl s n) b) W Br (Br.length+1),?_,tame_pos hn hn4 (base_01 hb) hWB hE hcn,fine_pos hend hn hE,fun h=>by omega,fun _=>⟨hE,hn,base_01 hb,rfl,rfl,rfl⟩⟩
  exact {
   vx:=by rw[hvl,wl_len,←cn_begs hn]
   bd:=by have:=(bix_len s n).2.1;rw[hvl,bnd_length hend];unfold cn;omega
   vl:=by rw[hvl];exact hcn
   cs:=by rw[hvl];exact cls_same hend hn (base_01 hb) W Br
   l0:=by rw[lns_len];omega
   l1:=by rw[lns_len];exact hB4
   ll:=lns_small hE hcn _ W
   p:=fun w vW vB hF h1 h2=>newP_pos s b vW vB W Br n w hs hb hF hend hn h1 h2 hBl hck }
 ·obtain rfl:n=0:=by omega
  have hs0:s.size=0:=hend.1.symm;have hbr0:=br_nil hs0 hbr;subst hbr0;refine⟨[0],[],[],1 - 2 * baseOf [] b,baseOf [] b,[],[ln0],?_,tame_nil,by rw[hs0];exact fine_nil,fun _=>rfl,fun h=>absurd h (by decide)⟩
  exact {
   vx:=rfl
   bd:=rfl
   vl:=by decide
   cs:=rfl
   l0:=by decide
   l1:=by decide
   ll:=fun l hl=>by rw[List.mem_singleton.1 hl];decide
   p:=fun w vW vB hF h1 h2=>newP_nil s b vW vB W [] w hs0 hb hF h1 h2 hck }
structure KC (Q:Nat)(w:World)(Bd V:List Int)(z:Int)(Ls:List Ln):Prop where
 hit:∀Y,Fr [] w Y→∀j t,Calls Tryz.prog 40 #[.pointer (some ⟨Q,0,none⟩),.int .i64 j,.int .i64 t] Y fun e w'=>e=.returned (.agg #[.int .i64 (hitP Bd V Ls j t).1,.bool (hitP Bd V Ls j t).2])∧Fr [] Y w'
 gap:∀Y,Fr [] w Y→∀off back,Calls Tryz.prog 36 #[.pointer (some ⟨Q,0,none⟩),.agg #[.int .i64 off,.bool back]] Y fun e w'=>e=.returned (.agg #[.int .i64 ((gapL Bd V z Ls off back).1:Nat),.int .i64 ((gapL Bd V z Ls off back).2:Nat)])∧Fr [] Y w'
 x:∀Y,Fr [] w Y→∀off back i k,gapL Bd V z Ls off back=(i,k)→i<Ls.length→k<(lnN Ls i).x.length→Calls Tryz.prog 41 #[.pointer (some ⟨Q,0,none⟩),.agg #[.int .i64 off,.bool back]] Y fun e w'=>e=.returned (.int .i64 (nth (lnN Ls i).x k))∧Fr [] Y w'
theorem KC.of {Q P B:Nat}{w:World}{Bd V X:List Int}{r z:Int}{Ls:List Ln}{v0 v1 v2 vL:Value}{hs:List Value}(hQ:w.heap[Q]?=some (.cells #[.pointer (some ⟨P,0,none⟩)] 143 (0,0)))(h:LP w B P Bd V X r Ls v0 v1 v2 vL hs)(F:Fine Bd V z Ls)(hz:0≤z)(T:Tame Bd V Ls)(hbd:Bd.length=V.length+1)(hv4:V.length≤400)(hK0:0<Ls.length)(hK:Ls.length≤400)(hll:∀l∈Ls,l.o.length≤1000∧l.x.length≤1001):KC Q w Bd V z Ls:=by
 have hlo:∀l∈Ls,l.o.length≤1000:=fun l hl=>(hll l hl).1
 have hq:∀Y,Fr [] w Y→Y.cell? ⟨Q,0,none⟩=some (.pointer (some ⟨P,0,none⟩)):=fun Y hf=>obj_cell (obj_fr hQ hf List.not_mem_nil) rfl
 have hl:∀Y,Fr [] w Y→LP Y B P Bd V X r Ls v0 v1 v2 vL hs:=fun Y hf=>h.fr hf (fun k hk=>absurd hk List.not_mem_nil)
 have hg:∀Y,Fr [] w Y→∀off back,Calls Tryz.prog 84 #[.pointer (some ⟨P,0,none⟩),.agg #[.int .i64 off,.bool back]] Y fun e w'=>e=.returned (.agg #[.int .i64 ((gapL Bd V z Ls off back).1:Nat),.int .i64 ((gapL Bd V z Ls off back).2:Nat)])∧Fr [] Y w':=fun Y hf off back=>gapP_all B P Bd V X r z Ls v0 v1 v2 vL hs off back Y (hl Y hf) F hz T hv4 hK hlo
 refine⟨fun Y hf j t=>?_,fun Y hf off back=>?_,fun Y hf off back i k e hi hk=>?_⟩
 ·exact hitC_any Q P j t _ _ Y (hq Y hf) (fun Z hZ=>hitP_any B P Bd V X r Ls v0 v1 v2 vL hs j t Z (hl Z (hf.trans hZ)) T hbd hv4 hK0 hK hlo)
 ·exact gapC_any Q P off _ _ back Y (hq Y hf) (fun Z hZ=>hg Z (hf.trans hZ) off back)
 ·refine xC_any Q P off _ back Y (hq Y hf) (fun Z hZ=>xP_any B P Bd V X r Ls v0 v1 v2 vL hs off back i k Z (hl Z (hf.trans hZ)) hi hk hK (hll _ (lnN_mem hi)).2 (fun Z2 hZ2=>?_))
  have:=hg Z2 (hf.trans (hZ.trans hZ2)) off back;rw[e]at this;exact this
set_option maxRecDepth 10000 in
theorem kfar_any (a b:Int)(w:World)(ha:0≤a∧a≤1000000000000000)(hb:-9223372036854775808≤b∧b≤9223372036854775807):Calls Tryz.prog 42 #[.int .i64 a,.int .i64 b] w fun e w'=>e=.returned (.int .u64 ((a - b).natAbs:Nat))∧w'=w:=by
 obtain⟨R,hR⟩:∃R,R=(a - b).natAbs:=⟨_,rfl⟩;rw[←hR];by_cases h:b<a
 ·have hw:IntKind.u64.wrap (a - IntKind.u64.wrap b)=(R:Int):=by
   simp only[IntKind.wrap_u64];omega
  clear hR;go_enter Tryz.func42,Tryz.ntmps42;go_wp2;go_ret;exact⟨rfl,rfl⟩
 ·have hw:b - a=(R:Int):=by omega
  have hd:decide (b<a)=false:=by simpa using h
  clear hR;go_enter Tryz.func42,Tryz.ntmps42;go_wp2;go_ret;exact⟨rfl,rfl⟩
theorem lnN_get' {Ls:List Ln}{i:Nat}(h:i<Ls.length):Ls[i]?=some (lnN Ls i):=by rw[lnN,List.getElem?_eq_getElem h];rfl
theorem kx_at {w:World}{B U K:Nat}{hs:List Value}{Ls:List Ln}(hl:lnsAt w B U hs Ls)(hK:Ls.length=K){i:Nat}(hi:i<K)(hx:0<(lnN Ls i).x.length) :
 ∃gX cX,hs[i * 4+3]?=some (.slice (some ⟨gX,0,none⟩) (lnN Ls i).x.length cX)∧w.ownsRow B 2 1 (.slice (some ⟨gX,0,none⟩) (lnN Ls i).x.length cX) (lnN Ls i).x.length (ints64 (lnN Ls i).x):=by
 obtain⟨vO,vX,_,_,_,a4,_,a6,_⟩:=hl i _ (lnN_get' (by omega));obtain⟨gX,cX,rfl⟩:=owns_shape hx a6;exact⟨gX,cX,a4,a6⟩
set_option maxRecDepth 10000 in
set_option maxHeartbeats 4000000 in
theorem points_good (s:ByteArray)(b:Int)(vW vB:Value)(W Br:List Int)(n:Nat)(x:Int)(w:World)(hF:Floor w)(hend:Dec.Ends s n)(hW:slAd w vW W)(hB:slAd w vB Br)(hs:s.size≤4096)(hWl:W.length≤4096)(hBl:Br.length≤4096)(hx:-9223372036854775808≤x∧x≤9223372036854775807)(hck:chk s n (clsOf s n) b W Br=0) :
 Calls Tryz.prog 8 #[.agg #[.string s,.int .i64 b,vW,vB],.int .i64 x] w fun e w'=>e=.returned (.bool true)∧Fr [] w w':=by
 obtain⟨Bd,V,X,r,bs,Cs,Ls,T,TT,F,one,_⟩:=keep_all s b W Br n hend (by omega) hck;obtain⟨aW,cW,rfl,_⟩:=id hW;obtain⟨aB,cB,rfl,_⟩:=id hB;obtain⟨wb,hwb⟩:∃wb,wb=w.alloc (.cells #[.string s,.int .i64 b,.slice aW W.length cW,.slice aB Br.length cB] 48):=⟨_,rfl⟩;have HFb:=hid (show Fr [] w wb by rw[hwb];exact(Fr.refl [] w).alloc _);have HOb:=hid (show wb.heap[w.heap.size]?=some (.cells #[.string s,.int .i64 b,.slice aW W.length cW,.slice aB Br.length cB] 48 (0,0)) by rw[hwb];exact obj_new w _);have HA:=hid (fun(Z:World) (hf:Fr [] w Z)=>alive_any Z (hF.fr hf));have HL:=hid (fun(Z:World) (hf:Fr [] w Z)=>laid_good s b _ _ W Br Z (hF.fr hf) (hW.fr hf) (hB.fr hf) hs hWl hBl Bd V X r bs Cs Ls T);obtain⟨K,hK⟩:∃K,K=Ls.length:=⟨_,rfl⟩;have HK:=hid hK;have hK0:0<K:=by rw[hK];exact T.l0
 have hK1:K≤400:=by rw[hK];exact T.l1
 have HT:=hid T;have HTT:=hid TT;have HFF:=hid F;have HONE:=hid one;have HX:=hid hx;generalize W.length=nW at *;generalize Br.length=nB at *;clear hF hW hB T TT F one hend hck hK hx;go_enter Tryz.func8,Tryz.ntmps8;go_wp2_with fail;rw[←hwb];clear hwb;refine(HA.out wb HFb.out).mono ?_;rintro e w1 ⟨rfl,hf1⟩;have HF1:=hid (HFb.out.trans hf1);have HO1:=hid (obj_fr HOb.out hf1 List.not_mem_nil);have c0:=obj_cell HO1.out (i:=0) (v:=.string s) rfl;have c1:=obj_cell HO1.out (i:=1) (v:=.int .i64 b) rfl;have c2:=obj_cell HO1.out (i:=2) (v:=.slice aW nW cW) rfl;have c3:=obj_cell HO1.out (i:=3) (v:=.slice aB nB cB) rfl;clear hf1 HA;go_wp2_with fail;refine(HL.out w1 HF1.out).mono ?_;rintro e w2 ⟨Q,P,v0,v1,v2,vL,hs2,rfl,hQ,_,⟨B,_,hLP⟩,hf2⟩;have HF2:=hid (HF1.out.trans hf2);have HKC:=hid (KC.of hQ hLP HFF.out (by omega) HTT.out HT.out.bd HT.out.vl HT.out.l0 HT.out.l1 HT.out.ll);have q0:=obj_cell hQ (i:=0) (v:=.pointer (some ⟨P,0,none⟩)) rfl
 have H32:=hid (lay_lines Q P w2 q0 (fun v w'=>∃hs',w'.ownsRow w2.heap.size 72 4 v K hs'∧lnsAt w' w2.heap.size w'.heap.size hs' Ls∧Fr [] w2 w') (by
  obtain⟨U,_,hn⟩:=hLP.n
  have hll:=hLP.l
  rw[←HK.out]at hll
  refine(lines56_any P K _ U v0 v1 v2 vL _ hs2 _ w2 hLP.o hll hn hK0 (by omega) HK.out.symm HT.out.ll).mono ?_
  rintro e w' ⟨v,hs',rfl,h1,h2,_,h4⟩
  exact⟨v,rfl,hs',h1,h2,h4⟩))
 clear hQ hLP hf2 q0 HL c0 c1 c2 c3;go_wp2_with fail;refine H32.out.mono ?_;rintro e w3 ⟨vN,rfl,hs',own3,hl3,hf3⟩;have HF3:=hid (HF2.out.trans hf3);have HK3:=hid hf3;obtain⟨gN,cN,rfl⟩:=owns_shape hK0 own3;have HN:=hid own3;have HLN:=hid hl3;clear own3 hl3 hf3 H32;go_wp2_with fail;go_loopw [8] (fun a wr=>∃i:Nat,a=.int .i64 i∧i≤K∧Hid (Fr [] w3 wr)) (fun a _=>K - (intOf a).toNat)
 case atStart=>exact⟨0,rfl,Nat.zero_le _,hid (Fr.refl _ _)⟩
 case round =>
  obtain⟨i,rfl,hiK,HR⟩:=hrel;by_cases hi:i<K
  ·have hiI:(i:Int)<(K:Int):=by omega
   have HIi:=hid hi;have hiL:i<Ls.length:=by rw[←HK.out];exact hi
   obtain⟨ca,cb,hc⟩:∃ca cb,hitP Bd V Ls i x=(ca,cb):=⟨_,_,rfl⟩;obtain⟨g0,hg0⟩:∃g0,g0=bestTo (lnN Ls i).x x (lnN Ls i).x.length:=⟨_,rfl⟩
   have HG:=hid (show gapL Bd V (s.size:Nat) Ls ca cb=(i,g0) by
    have h:=hit_gap HFF.out HTT.out HONE.out hiL x
    rw[hc,←hg0]at h
    exact h)
   have H40:=hid (HKC.out.hit wr (HK3.out.trans HR.out) i x);rw[hc]at H40;have hgl:g0<(lnN Ls i).x.length:=by rw[hg0];exact bestTo_lt _ _ _ (by have:=HTT.out.xl _ (lnN_mem hiL);omega)
   have HG0:=hid hg0;obtain⟨lx,hlx⟩:∃lx,lx=(lnN Ls i).x.length:=⟨_,rfl⟩;have HLX:=hid hlx;have hlx1:lx≤1001:=by rw[hlx];exact(HT.out.ll _ (lnN_mem hiL)).2
   rw[←hlx]at hgl;clear hg0 hc hlx;go_wp2_with fail;refine H40.out.mono ?_;rintro e w4 ⟨rfl,hf4⟩;have HR4:=hid (HR.out.trans hf4);clear H40 hf4;obtain⟨w5,hw5⟩:∃w5,w5=w4.alloc (.cells #[.int .i64 ca,.bool cb] 35):=⟨_,rfl⟩;have HR5:=hid (show Fr [] w3 w5 by rw[hw5];exact HR4.out.alloc _);have HC5:=hid (show w5.heap[w4.heap.size]?=some (.cells #[.int .i64 ca,.bool cb] 35 (0,0)) by rw[hw5];exact obj_new w4 _);have HW5:=hid hw5;have H36:=hid (HKC.out.gap w5 (HK3.out.trans HR5.out) ca cb);rw[HG.out]at H36;clear hw5;go_wp2_with fail;rw[←HW5.out];refine H36.out.mono ?_;rintro e w6 ⟨rfl,hf6⟩;have HR6:=hid (HR5.out.trans hf6);have HC6:=hid (obj_fr HC5.out hf6 List.not_mem_nil);clear H36 hf6;obtain⟨w7,hw7⟩:∃w7,w7=w6.alloc (.cells #[.int .i64 (i:Nat),.int .i64 (g0:Nat)] 37):=⟨_,rfl⟩;have HR7:=hid (show Fr [] w3 w7 by rw[hw7];exact HR6.out.alloc _);have HC7:=hid (show w7.heap[w4.heap.size]?=some (.cells #[.int .i64 ca,.bool cb] 35 (0,0)) by rw[hw7];exact obj_fr HC6.out ((Fr.refl [] _).alloc _) List.not_mem_nil);have HG7:=hid (show w7.heap[w6.heap.size]?=some (.cells #[.int .i64 (i:Nat),.int .i64 (g0:Nat)] 37 (0,0)) by rw[hw7];exact obj_new w6 _);have HW7:=hid hw7;have H41:=hid (HKC.out.x w7 (HK3.out.trans HR7.out) ca cb i g0 HG.out hiL (by rw[←HLX.out];exact hgl));obtain⟨c0,c1⟩:=(show w7.cell? ⟨w4.heap.size,0,none⟩=some (.int .i64 ca)∧w7.cell? ⟨w4.heap.size,1,none⟩=some (.bool cb)from⟨obj_cell HC7.out rfl,obj_cell HC7.out rfl⟩);rw[hw7]at c0 c1;clear hw7;go_wp2_with fail;rw[←HW7.out];refine H41.out.mono ?_;rintro e w8 ⟨rfl,hf8⟩;have HR8:=hid (HR7.out.trans hf8);have HG8:=hid (obj_fr HG7.out hf8 List.not_mem_nil);clear H41 hf8 c0 c1;obtain⟨gX,cX,a4,a6⟩:=kx_at (HLN.out) HK.out.symm hi (by rw[←HLX.out];omega);rw[←HLX.out]at a4 a6;have HA4:=hid a4;have HA6:=hid a6;have hl3:=HN.out.1;have n3:w8.cell? ⟨gN,i * 4+3,none⟩=some (.slice (some ⟨gX,0,none⟩) lx cX):=by rw[(owns_fr0 HN.out HR8.out).cellAt _ (by omega)];exact HA4.out
   have HXR:=hid (show ∀Y,Fr [] w3 Y→∀k,k<lx→Y.cell? ⟨gX,k,none⟩=some (.int .i64 (nth (lnN Ls i).x k))from fun Y hf k hk=>by
    rw[(owns_fr0 HA6.out hf).cellAt _ (by omega)];exact ints64_at (by rw[←HLX.out];exact hk))
   have xg:=HXR.out w8 HR8.out g0 hgl;have g8:=obj_cell HG8.out (i:=0) (v:=.int .i64 (i:Nat)) rfl;have g9:=obj_cell HG8.out (i:=1) (v:=.int .i64 (g0:Nat)) rfl;have hgI:(g0:Int)<(lx:Int):=by omega
   obtain⟨xv,hxv⟩:∃xv,xv=nth (lnN Ls i).x g0:=⟨_,rfl⟩;have HXV:=hid hxv;rw[←hxv]at xg ⊢;have H42:=hid (fun Y:World=>kfar_any xv x Y (by rw[hxv];have:=HTT.out.xb _ (lnN_mem hiL) g0 (by rw[←HLX.out];exact hgl);omega) HX.out);clear a4 a6 hl3 hxv;go_wp2_with fail;go_quiet (fail);go_wp2_with (first | (go_at_call 42;refine(H42.out _).mono ?_;rintro e w9 ⟨rfl,rfl⟩));obtain⟨w9,hw9⟩:∃w9,w9=w8.drewN nq:=⟨_,rfl⟩;have HR9:=hid (show Fr [] w3 w9 by rw[hw9];exact Fr.drewN HR8.out _);have HG9:=hid (show w9.heap[w6.heap.size]?=some (.cells #[.int .i64 (i:Nat),.int .i64 (g0:Nat)] 37 (0,0)) by rw[hw9];exact obj_fr HG8.out (Fr.drewN (Fr.refl [] w8) _) List.not_mem_nil);rw[←hw9];obtain⟨dN,hdN⟩:∃dN,dN=(xv - x).natAbs:=⟨_,rfl⟩;have HDN:=hid hdN;rw[←hdN];clear hdN hw9 n3 xg g8 g9;go_loopw [13] (fun a wr=>∃k:Nat,a=.int .i64 k∧k≤lx∧Hid (Fr [] w9 wr)) (fun a _=>lx - (intOf a).toNat)
   case atStart=>exact⟨0,rfl,Nat.zero_le _,hid (Fr.refl _ _)⟩
   case round =>
    obtain⟨k,rfl,hkl,HS⟩:=hrel;have HS3:=hid (HR9.out.trans HS.out);have hl3:=HN.out.1;have n3:wr.cell? ⟨gN,i * 4+3,none⟩=some (.slice (some ⟨gX,0,none⟩) lx cX):=by rw[(owns_fr0 HN.out HS3.out).cellAt _ (by omega)];exact HA4.out
    clear hl3;by_cases hk:k<lx
    ·have hkI:(k:Int)<(lx:Int):=by omega
     have HKk:=hid hk;obtain⟨xk,hxk⟩:∃xk,xk=nth (lnN Ls i).x k:=⟨_,rfl⟩;have xc:=HXR.out wr HS3.out k hk;have HXB:=hid (show 0≤xk∧xk≤1000000000000000 by rw[hxk];have:=HTT.out.xb _ (lnN_mem hiL) k (by rw[←HLX.out];exact hk);omega);rw[←hxk]at xc;obtain⟨fN,hfN⟩:∃fN,fN=(xk - x).natAbs:=⟨_,rfl⟩
     have HB:=hid (show dN≤fN∧(fN=dN→g0≤k) by
      have h:=best_le (lnN Ls i).x x lx k hk
      rw[HDN.out,hfN,HXV.out,hxk,HG0.out,←HLX.out]
      exact h)
     have h42:=hid (fun Y:World=>kfar_any xk x Y HXB.out HX.out);rw[←hfN]at h42;have HXK:=hid hxk;clear hxk hfN;go_wp2_with fail;refine(h42.out wr).mono ?_;rintro e w10 ⟨rfl,rfl⟩;have g9:=obj_cell (obj_fr HG9.out HS.out List.not_mem_nil) (i:=1) (v:=.int .i64 (g0:Nat)) rfl;have hlt:decide ((fN:Int)<(dN:Int))=false:=by have:=HB.out.1;simp;omega
     have hltN:decide (fN<dN)=false:=by have:=HB.out.1;simp;omega
     have hltP:¬fN<dN:=by have:=HB.out.1;omega
     obtain⟨ha,hb,hhp⟩:∃ha hb,hitP Bd V Ls i xk=(ha,hb):=⟨_,_,rfl⟩;obtain⟨k2,hk2⟩:∃k2,k2=bestTo (lnN Ls i).x xk (lnN Ls i).x.length:=⟨_,rfl⟩
     have HK2:=hid (show gapL Bd V (s.size:Nat) Ls ha hb=(i,k2) by
      have h:=hit_gap HFF.out HTT.out HONE.out hiL xk
      rw[hhp,←hk2]at h
      exact h)
     have HKL:=hid (show k2<(lnN Ls i).x.length by rw[hk2];exact bestTo_lt _ _ _ (by rw[←HLX.out];omega))
     have HKX:=hid (show nth (lnN Ls i).x k2=xk by
      have h:=best_le (lnN Ls i).x xk lx k hk
      rw[hk2,←HLX.out]
      have:=HXK.out
      omega)
     have HH:=hid hhp;have hne:(xk == xk)=true:=by simp
     clear hk2 hhp h42;have H40:=hid (HKC.out.hit w10 (HK3.out.trans HS3.out) i xk);rw[HH.out]at H40;by_cases he:fN=dN
     all_goals (first
      | (have hkg:decide ((k:Int)<(g0:Int))=false:=by have:=HB.out.2 he;simp;omega
         have hkgN:decide (k<g0)=false:=by have:=HB.out.2 he;simp;omega
         have hkgP:¬k<g0:=by have:=HB.out.2 he;omega
         subst he
         clear hlt hltN hltP
         go_wp2_with fail)
      | (have he2:¬(fN:Int)=(dN:Int):=by omega
         have he3:((fN:Int) == (dN:Int))=false:=by simpa using he2
         have he4:(fN == dN)=false:=by simpa using he
         go_wp2_with fail))
     all_goals (
      refine H40.out.mono ?_
      rintro e w11 ⟨rfl,hf11⟩
      have HS11:=hid (HS.out.trans hf11)
      clear hf11 n3 xc g9 H40
      obtain⟨w12,hw12⟩:∃w12,w12=w11.alloc (.cells #[.int .i64 ha,.bool hb] 35):=⟨_,rfl⟩
      have HS12:=hid (show Fr [] w9 w12 by rw[hw12];exact HS11.out.alloc _)
      have HW12:=hid hw12
      have H41:=hid (HKC.out.x w12 (HK3.out.trans (HR9.out.trans HS12.out)) ha hb i k2 HK2.out hiL HKL.out)
      rw[HKX.out]at H41
      clear hw12
      go_wp2_with fail
      rw[←HW12.out]
      refine H41.out.mono ?_
      rintro e w13 ⟨rfl,hf13⟩
      have HS13:=hid (HS12.out.trans hf13)
      have hl3:=HN.out.1
      have n3:w13.cell? ⟨gN,i * 4+3,none⟩=some (.slice (some ⟨gX,0,none⟩) lx cX):=by rw[(owns_fr0 HN.out (HR9.out.trans HS13.out)).cellAt _ (by omega)];exact HA4.out
      have xc:=HXR.out w13 (HR9.out.trans HS13.out) k hk
      rw[←HXK.out]at xc
      clear hf13 H41 hl3
      go_wp2
      go_roundw
      case rel=>exact⟨k+1,by go_num,HKk.out,hid HS13.out⟩
      case measure=>simp[intOf];have:=HKk.out;omega)
    ·obtain rfl:k=lx:=by omega
     have hkn:¬(k:Int)<(k:Int):=by omega
     have hkd:decide ((k:Int)<(k:Int))=false:=by simp
     go_wp2;go_roundw
     case rel=>exact⟨i+1,by go_num,HIi.out,hid HS3.out⟩
     case measure=>simp[intOf];have:=HIi.out;omega
  ·obtain rfl:i=K:=by omega
   have hkd:decide ((i:Int)<(i:Int))=false:=by simp
   have h0:(0:Int)<(i:Int):=by omega
   go_wp2;go_ret;exact⟨rfl,HF3.out.trans HR.out⟩
theorem laid_none (s:ByteArray)(b:Int)(aW aB:Option Addr)(cW cB:Nat)(W Br:List Int)(w:World)(hF:Floor w)(hW:slAd w (.slice aW W.length cW) W)(hB:slAd w (.slice aB Br.length cB) Br)
 (h:∀n,Dec.Ends s n→s.size≤4096∧W.length≤4096∧Br.length≤4096→chk s n (clsOf s n) b W Br≠0) :
 Calls Tryz.prog 30 #[.agg #[.string s,.int .i64 b,.slice aW W.length cW,.slice aB Br.length cB]] w fun e w'=>e=.returned (.pointer none)∧Fr [] w w':=by
 by_cases hf:s.size≤4096∧W.length≤4096∧Br.length≤4096
 ·obtain⟨n,hend⟩:=Cls.runs s
  exact laid_bad s b _ _ W Br n w hF hend hW hB hf.1 hf.2.1 hf.2.2 (h n hend hf)
 ·exact laid_out s b aW aB W.length cW Br.length cB w hf
set_option maxRecDepth 10000 in
set_option maxHeartbeats 4000000 in
theorem points_none (s:ByteArray)(b:Int)(aW aB:Option Addr)(nW cW nB cB:Nat)(x:Int)(w:World)(hF:Floor w)
 (hL:∀Z,Fr [] w Z→Calls Tryz.prog 30 #[.agg #[.string s,.int .i64 b,.slice aW nW cW,.slice aB nB cB]] Z fun e w'=>e=.returned (.pointer none)∧Fr [] Z w') :
 Calls Tryz.prog 8 #[.agg #[.string s,.int .i64 b,.slice aW nW cW,.slice aB nB cB],.int .i64 x] w fun e w'=>e=.returned (.bool true)∧Fr [] w w':=by
 obtain⟨wb,hwb⟩:∃wb,wb=w.alloc (.cells #[.string s,.int .i64 b,.slice aW nW cW,.slice aB nB cB] 48):=⟨_,rfl⟩;have HFb:=hid (show Fr [] w wb by rw[hwb];exact(Fr.refl [] w).alloc _);have HOb:=hid (show wb.heap[w.heap.size]?=some (.cells #[.string s,.int .i64 b,.slice aW nW cW,.slice aB nB cB] 48 (0,0)) by rw[hwb];exact obj_new w _);have HA:=hid (fun(Z:World) (hf:Fr [] w Z)=>alive_any Z (hF.fr hf));have HL:=hid hL;clear hF hL;go_enter Tryz.func8,Tryz.ntmps8;go_wp2_with fail;rw[←hwb];clear hwb;refine(HA.out wb HFb.out).mono ?_;rintro e w1 ⟨rfl,hf1⟩;have HF1:=hid (HFb.out.trans hf1);have HO1:=hid (obj_fr HOb.out hf1 List.not_mem_nil);have c0:=obj_cell HO1.out (i:=0) (v:=.string s) rfl;have c1:=obj_cell HO1.out (i:=1) (v:=.int .i64 b) rfl;have c2:=obj_cell HO1.out (i:=2) (v:=.slice aW nW cW) rfl;have c3:=obj_cell HO1.out (i:=3) (v:=.slice aB nB cB) rfl;clear hf1 HA;go_wp2_with fail;refine(HL.out w1 HF1.out).mono ?_;rintro e w2 ⟨rfl,hf2⟩;have HF2:=hid (HF1.out.trans hf2);clear hf2 c0 c1 c2 c3 HL;go_wp2;go_ret;exact⟨rfl,HF2.out⟩
theorem points_any (s:ByteArray)(b:Int)(vW vB:Value)(W Br:List Int)(x:Int)(w:World)(hF:Floor w)(hW:slAd w vW W)(hB:slAd w vB Br)(hx:-9223372036854775808≤x∧x≤9223372036854775807) :
 Calls Tryz.prog 8 #[.agg #[.string s,.int .i64 b,vW,vB],.int .i64 x] w fun e w'=>e=.returned (.bool true)∧Fr [] w w':=by
 obtain⟨aW,cW,rfl,_⟩:=id hW;obtain⟨aB,cB,rfl,_⟩:=id hB;by_cases h:∃n,Dec.Ends s n∧(s.size≤4096∧W.length≤4096∧Br.length≤4096)∧chk s n (clsOf s n) b W Br=0
 ·obtain⟨n,hend,hf,hck⟩:=h
  exact points_good s b _ _ W Br n x w hF hend hW hB hf.1 hf.2.1 hf.2.2 hx hck
 ·refine points_none s b aW aB W.length cW Br.length cB x w hF (fun Z hf=>laid_none s b aW aB cW cB W Br Z (hF.fr hf) (hW.fr hf) (hB.fr hf) (fun n hend hl hck=>h ⟨n,hend,hl,hck⟩))
end Go.Proofs.YtnakejhohdbfdabGreatDoor
namespace Go.Proofs.YtnakejhohdbfdabGreatDoor.Cls
open Go.RowKit Tabs
theorem tKinds:(Tryz.prog.globals[1]?).map (·.type)=some 278:=by kernel_rfl
theorem cells48:Tryz.prog.cellsOf 277=3:=by kernel_rfl
theorem cells30:Tryz.prog.cellsOf 127=1:=by kernel_rfl
theorem dataKinds:(Rows.laid_caret_runes_kinds:DataW Unit)=.agg (kindTab.map rowData):=by kernel_rfl
theorem kinds_of_head {W:World}{n:String}{rest:List (String × DataW Unit)}(h:laidMet Tryz.prog ((n,Rows.laid_caret_runes_kinds) :: rest) W)(hn:Tryz.prog.globalNamed n=some 1):TabAt W 1 kindTab:=by
 rw[dataKinds]at h;exact tabAt_of_head hn tKinds Tryz.underlying278 Tryz.underlying277 cells48 rfl rfl rfl Tryz.underlying21 Tryz.underlying21 Tryz.underlying127 cells21 cells21 cells30 len_kind.symm h
end Go.Proofs.YtnakejhohdbfdabGreatDoor.Cls

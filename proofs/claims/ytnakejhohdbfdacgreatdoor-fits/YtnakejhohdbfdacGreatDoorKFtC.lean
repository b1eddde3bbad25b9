import Derived.Test.YtnakejhohdbfdacGreatDoorKFtB
import Derived.Test.YtnakejhohdbfdacGreatDoorKDecLaw
namespace Go.Proofs.YtnakejhohdbfdacGreatDoor.Cls.Wr
open Go.RowKit Dec Kin Bnd Lay Lev
theorem bps_at (s:ByteArray)(n:Nat)(ls:List Nat){k:Nat}(h:k<ls.length):(ints64 (bps s n ls))[k]?=some (.int .i64 ((pos s (nix (bix s n) (nix ls k)):Nat):Int)):=by simp[ints64,bps,nix,h]
theorem ones_nth {n i:Nat}(h:i<n):nth (List.replicate n (1:Int)) i=1:=by simp[nth,h]
theorem ones_snoc (i:Nat):ints64 (List.replicate i (1:Int))++[.int .i64 1]=ints64 (List.replicate (i+1) (1:Int)):=by
 rw[List.replicate_succ',ints_snoc]
theorem pos_lt_iff {s:ByteArray}{n a b:Nat}(ha:a≤cn s n)(hb:b≤cn s n):(pos s (nix (bix s n) a)<pos s (nix (bix s n) b)) ↔ a<b:=by
 constructor
 ·intro h
  rcases Nat.lt_or_ge a b with h1 | h1
  ·exact h1
  ·have:=pos_le s (ix_mono h1 ha)
   omega
 ·intro h
  exact pos_mono s _ _ (nix_lt (bix_sorted s n) h (by unfold cn at hb;have:=(bix_len s n).2.1;omega))
theorem le_f {a b c:Nat}(h:a=c)(hlt:b<c):decide ((a:Int)≤(b:Int))=false∧¬(a:Int)≤(b:Int)∧decide (a≤b)=false:=by
 subst h;exact⟨by simp;omega,by omega,by simp;omega⟩
theorem bdrew {B:Nat}{w X:World}(h:Below B w X)(q:Nat):Below B w (X.drewN q):=⟨h.os,h.tape,h.output,h.size,h.block⟩
set_option maxRecDepth 10000 in
set_option maxHeartbeats 2000000 in
theorem fits_long (s:ByteArray)(R:Int)(w:World)(hF:Floor w)(h:4096<s.size) :
 Calls Tryz.prog 5 #[.string s,.int .i64 R] w fun e w'=>e=.returned (.bool true)∧Below w.heap.size w w':=by
 have HA:=hide (alive_any w hF);have hs1:(4096:Int)<(s.size:Int):=by omega
 clear hF h;go_enter Tryz.func5,Tryz.ntmps5;go_wp2_with fail;refine HA.out.mono ?_;rintro e w1 ⟨rfl,hf⟩;have HB:=hide (hf.below (Nat.le_refl _) (fun _ hk=>absurd hk List.not_mem_nil));clear hf HA;go_wp2;go_ret;exact⟨rfl,HB.out⟩
set_option maxRecDepth 10000 in
set_option maxHeartbeats 8000000 in
theorem fits_short (s:ByteArray)(R:Int)(w:World)(hs:s.size≤4096)(hR:-9223372036854775808≤R∧R≤9223372036854775807)(hF:Floor w)(hT:Lib.Utf8Tabs 8 9 w) :
 Calls Tryz.prog 5 #[.string s,.int .i64 R] w fun e w'=>e=.returned (.bool true)∧Below w.heap.size w w':=by
 obtain⟨n,hend⟩:=runs s;have hns:n≤4096:=by have:=le_pos s n;have:=hend.1;omega
 obtain⟨i0,hi,hz0,hz1,hz2⟩:=info_parts info3;have HA:=hide (alive_any w hF);have HE:=hide hend;have HT0:=hide (fun(A:World) (hb:Below w.heap.size w A)=>hF.t9.below (hF.t9.lt (by decide)) hb);have HT3:=hide (fun(A:World) (hb:Below w.heap.size w A)=>hF.t3.below (hF.t3.lt (by decide)) hb);have HT4:=hide (fun(A:World) (hb:Below w.heap.size w A)=>hF.t4.below (hF.t4.lt (by decide)) hb);have HTU:=hide (fun(A:World) (hb:Below w.heap.size w A)=>tabs_below hT hb);have hs1:decide ((4096:Int)<(s.size:Int))=false:=by simp;omega
 clear hF hT hend;go_enter Tryz.func5,Tryz.ntmps5;go_wp2_with fail;refine HA.out.mono ?_;rintro e w1 ⟨rfl,hf⟩;have HB1:=hide (hf.below (Nat.le_refl _) (fun _ hk=>absurd hk List.not_mem_nil));have C8:=hide (dec8 s n w1 HE.out (by omega));clear hf HA;go_wp2_with fail;refine C8.out.mono ?_;rintro e w2 ⟨aR,cR,rfl,own2,hb2⟩;have HB2:=hide (HB1.out.trans (hb2.mono HB1.out.size));have HRC:Hid (∀Y,Below w2.heap.size w2 Y→∀j,j<n→∃g,aR=some ⟨g,0,none⟩∧Y.cell? ⟨g,j * 3,none⟩=some (.int .i32 (rune s j))∧Y.cell? ⟨g,j * 3+1,none⟩=some (.int .i64 ((pos s j:Nat):Int))):=fun Y hY j hj=>by
  obtain⟨g,c,hv⟩:=owns_shape_pos (by omega) own2;cases hv;obtain⟨k0,k1,_⟩:=cells_get (s:=s) hj;have hlt:=(owns_at own2).2;have hl:=own2.1;exact⟨g,rfl,((hY.cell (p:=⟨g,j * 3,none⟩) hlt).trans (own2.cellAt _ (by omega))).trans k0,((hY.cell (p:=⟨g,j * 3+1,none⟩) hlt).trans (own2.cellAt _ (by omega))).trans k1⟩
 clear own2 hb2 C8;go_wp2_with fail;go_loopw [7,8] (fun wv iv wr=>∃i:Nat,iv=.int .i64 i∧i≤n∧Hid (wr.ownsRow w2.heap.size 3 1 wv i (ints64 (List.replicate i 1)))∧Hid (Below w2.heap.size w2 wr)) (fun _ iv _=>n - (intOf iv).toNat)
 case atStart=>exact⟨0,rfl,Nat.zero_le _,hide (World.ownsRow_nil _ _ _ _),hide (Below.refl _ _)⟩
 case round =>
  obtain⟨i,rfl,hin,HO,HB⟩:=hrel;by_cases hilt:i<n
  ·have hiI:(i:Int)<(n:Int):=by omega
   have HO4:=hide (HO.out.alloc (.cells #[.int .i64 1] 3));have HB4:=hide (HB.out.alloc HB.out.size (.cells #[.int .i64 1] 3));have hszr:=HB.out.size;go_wp2_with (at_builtin;refine wpList_append_own _ rfl _ _ 32 rfl w2.heap.size 3 i0 _ 1 8 Tryz.underlying32 hi hz0 hz1 hz2 rfl (by decide) _ _ _ rfl HO4.out ⟨wr.heap.size,0,none⟩ 1 1 [.int .i64 1] rfl rfl (cell_one_new _ _ _) (one_cell _) (by unfold maxLen;omega) (by omega) (by simp;omega) ?_);intro v' w4 own4 hgrow hnil;have HO5:=hide own4;have HB5:=hide (HB4.out.grown hgrow (by simp;omega) (by intro x hx;exact(HO4.out.lt x hx).1));clear own4 hgrow hnil HO4 HB4;go_wp2;exact⟨⟨i+1,by go_num,by omega,hide (by rw[←ones_snoc,show ints64 (List.replicate i (1:Int))=List.replicate i (Value.int .i64 1) by simp[ints64]];exact HO5.out),HB5⟩,by simp[intOf];omega⟩
  ·obtain rfl:i=n:=by omega
   have hid2:decide ((i:Int)<(i:Int))=false:=by simp
   -- the widths, the breaks, the boundaries
   obtain⟨aW,cW,hvW,hcc⟩:=owns_any HO.out;subst hvW;have HBw:=hide (HB2.out.trans (HB.out.mono HB2.out.size))
   have C10:=hide (show Calls Tryz.prog 10 #[.string s,.slice aW i cW,.int .i64 R] wr fun e w'=>∃u,e=.returned u∧(w'.ownsRow wr.heap.size 3 1 u (wrp s i (List.replicate i 1) R).length (ints64 (wrp s i (List.replicate i 1) R))∧Below wr.heap.size wr w') by
    refine wrap4 s _ R wr _ ?_
    have hx:∃g,0<i→aW=some ⟨g,0,none⟩∧g<wr.heap.size:=by
     rcases Nat.eq_zero_or_pos i with h | h
     ·exact⟨0,fun h'=>by omega⟩
     ·obtain⟨g,c',hv⟩:=owns_shape_pos h HO.out
      cases hv
      exact⟨g,fun _=>⟨rfl,(owns_at HO.out).2⟩⟩
    obtain⟨g,hg⟩:=hx
    have hl:=own_lst HO.out (by simp)
    refine(wrapP_good s wr hs i HE.out (HTU.out wr HBw.out) (HT0.out wr HBw.out) (HT3.out wr HBw.out) (HT4.out wr HBw.out) (List.replicate i 1) aW g 0 cW (by simp) (fun h=>(hg h).1) hcc (fun Y hY j hj=>?_) R hR).mono ?_
    ·obtain⟨g1,g2⟩:=hg (by omega)
     obtain⟨g',o',e1,e2⟩:=hl j (by simpa using hj)
     rw[g1]at e1
     cases e1
     exact(hY.cell (p:=⟨g,0+j,none⟩) g2).trans e2
    ·rintro e w' ⟨v,rfl,k1,k2⟩
     exact⟨v,rfl,k1,k2⟩)
   obtain⟨ls,hls⟩:∃ls,ls=brk (ln1 (blk s i) (cw s i (List.replicate i 1)) R (cn s i)) (cn s i) 0:=⟨_,rfl⟩;have hwl:wrp s i (List.replicate i 1) R=bps s i ls:=by rw[hls];rfl
   have HOK:=hide (fun k (hk:k≤ls.length)=>line_ok (s:=s) (W:=List.replicate i 1) (fun j hj=>ones_nth hj) R ls hls k hk);have hcn:cn s i≤i:=by have:=(bix_len s i).1;unfold cn;omega
   obtain⟨K,hK⟩:∃K,K=ls.length:=⟨_,rfl⟩;have hK1:K≤4096:=by
    have h1:=brk_len (ln1 (blk s i) (cw s i (List.replicate i 1)) R (cn s i)) (cn s i) (cn s i) 0 (by omega);rw[hK,hls];omega
   have hbl:(bnd s i).length=cn s i+1:=by rw[bnd_bix HE.out,List.length_map];unfold cn;have:=(bix_len s i).2.1;omega
   rw[hwl,show(bps s i ls).length=K by simp[bps,hK]]at C10;rw[←hK]at HOK;have HBP:=hide (fun k (h:k<K)=>bps_at s i ls (k:=k) (by omega));have HLN:=hide (fun k (h:k<K)=>lF_next ls (cn s i) (k:=k) (by omega));have HL0:=hide (show lF ls 0=0 from rfl);have HLT:=hide (show(∀k,k<K→lT ls (cn s i) k=nix ls k)∧lT ls (cn s i) K=cn s i from⟨fun k hk=>by unfold lT;rw[if_pos (by omega)],by unfold lT;rw[if_neg (by omega)]⟩);have HBC:=hide (fun j (h:j≤cn s i)=>bnd_cells (s:=s) (n:=i) (i:=j) HE.out h);have HPL:=hide (fun(a b:Nat) (ha:a≤cn s i) (hb:b≤cn s i)=>pos_lt_iff (s:=s) (n:=i) ha hb);have HRL:=hide (fun j (h:j<cn s i)=>ri_lt (s:=s) (n:=i) h);have HRI:=hide (fun j (h:j≤cn s i)=>ri_le (s:=s) (n:=i) h)
   have HPE:=hide (show pos s (nix (bix s i) (cn s i))=s.size by
    have h:=bix_last s i
    rw[←HE.out.1]
    exact congrArg (pos s) h)
   have HP0:=hide (show pos s (nix (bix s i) 0)=0 by rw[bix_zero];rfl);obtain⟨c,hc⟩:∃c,c=cn s i:=⟨_,rfl⟩;rw[←hc]at hcn hbl HOK HLN HLT HBC HPL HRL HRI HPE;have HCC:=hide hc;clear hls hwl hK hc;go_wp2_with fail;refine C10.out.mono ?_;rintro e w3 ⟨vL,rfl,own3,hb3⟩;obtain⟨aL,cL,hvL,_⟩:=owns_any own3;subst hvL;have HB3:=hide (HB.out.trans (hb3.mono HB.out.size));have HW3:=hide (HB2.out.trans (HB3.out.mono HB2.out.size));have C11:=hide (clus11 s i w3 HE.out (by omega) (HT0.out w3 HW3.out));rw[hbl]at C11;have HO3:=hide own3;clear own3 hb3 C10;go_wp2_with fail;refine C11.out.mono ?_;rintro e w4 ⟨vB,rfl,own4,hb4⟩;obtain⟨gB,cB,hvB⟩:=owns_shape_pos (by omega) own4;subst hvB;have HB4:=hide (HB3.out.trans (hb4.mono HB3.out.size));have HW4:=hide (HW3.out.trans (hb4.mono HW3.out.size));have HCB:Hid (∀Y,Below w4.heap.size w4 Y→∀j,j≤c→Y.cell? ⟨gB,j,none⟩=some (.int .i64 ((pos s (nix (bix s i) j):Nat):Int))):=fun Y hY j hj=>by
    have hl:=own4.1;exact((hY.cell (p:=⟨gB,j,none⟩) (owns_at own4).2).trans (own4.cellAt _ (by omega))).trans (HBC.out j hj)
   have HCL:Hid (∀Y,Below w4.heap.size w4 Y→∀k,k<K→∃g,aL=some ⟨g,0,none⟩∧Y.cell? ⟨g,k,none⟩=some (.int .i64 ((pos s (nix (bix s i) (lT ls c k)):Nat):Int))):=fun Y hY k hk=>by
    have h:=owns_below HO3.out hb4;obtain⟨g,c',hv⟩:=owns_shape_pos (by omega) h;cases hv;rw[HLT.out.1 k hk];exact⟨g,rfl,((hY.cell (p:=⟨g,k,none⟩) (owns_at h).2).trans (h.cellAt _ (by omega))).trans (HBP.out k hk)⟩
   have HCR:Hid (∀Y,Below w4.heap.size w4 Y→∀j,j<i→∃g,aR=some ⟨g,0,none⟩∧Y.cell? ⟨g,j * 3,none⟩=some (.int .i32 (rune s j))∧Y.cell? ⟨g,j * 3+1,none⟩=some (.int .i64 ((pos s j:Nat):Int))):=fun Y hY j hj=>HRC.out Y (HB4.out.trans (hY.mono HB4.out.size)) j hj
   have C12:=hide (fun(Y:World) (hY:Below w4.heap.size w4 Y) (j:Nat) (hj:j≤c)=>snap12 s i j Y HE.out (by omega) (HT0.out Y (HW4.out.trans (hY.mono HW4.out.size))) (by rw[←HCC.out];exact hj));have C13:=hide (fun(Y:World) (hY:Below w4.heap.size w4 Y) (x:Int)=>class13 x Y (HT3.out Y (HW4.out.trans (hY.mono HW4.out.size))) (HT4.out Y (HW4.out.trans (hY.mono HW4.out.size))));clear own4 hb4 C11;go_wp2_with fail;go_loopw [11,12] (fun fv kv wr=>∃(k:Nat) (f:Int),kv=.int .i64 k∧fv=.int .i64 f∧k≤K+1∧Hid (k≤K→f=((pos s (nix (bix s i) (lF ls k)):Nat):Int))∧Hid (Below w4.heap.size w4 wr)) (fun _ kv _=>K+1 - (intOf kv).toNat)
   case atStart=>exact⟨0,0,rfl,rfl,Nat.zero_le _,hide (fun _=>by rw[HL0.out,HP0.out];rfl),hide (Below.refl _ _)⟩
   case round =>
    obtain⟨k,f,rfl,rfl,hkK,HFV,HBk⟩:=hrel;by_cases hk:k≤K
    ·have hkI:(k:Int)≤(K:Int):=by omega
     obtain⟨⟨m,LO⟩,hlt⟩:=HOK.out k hk;have hfv:=HFV.out hk;have hnx:=HLN.out k;obtain⟨F,hFe⟩:∃F,F=lF ls k:=⟨_,rfl⟩;obtain⟨T,hTe⟩:∃T,T=lT ls c k:=⟨_,rfl⟩;rw[←hFe,←hTe]at LO hlt;rw[←hFe]at hfv;rw[←hTe]at hnx;have HLO:=hide LO;have hTc:T≤c:=by have:=LO.tc;have:=HCC.out;omega
     have hFT:F≤T:=LO.ft;have HMT:=hide LO.mt;obtain⟨PF,hPF⟩:∃PF,PF=pos s (nix (bix s i) F):=⟨_,rfl⟩;obtain⟨PT,hPT⟩:∃PT,PT=pos s (nix (bix s i) T):=⟨_,rfl⟩;rw[←hPF]at hfv;subst hfv;have hPTs:PT≤s.size:=by
      rw[hPT,←HE.out.1];exact pos_le s (HRI.out T hTc)
     have HPF:=hide hPF;have HPT:=hide hPT;have HNX:=hide (show k+1≤K→((PT:Nat):Int)=((pos s (nix (bix s i) (lF ls (k+1))):Nat):Int)from fun h=>by rw[hnx (by omega),hPT])
     have HCNB:=hide (show ∀j,cnt s i F m j≤4096∧som F m j≤4096 from fun j=>by
      have h1:=HRI.out (F+m) (by have:=HMT.out;omega)
      have h2:=HMT.out
      unfold cnt som
      exact⟨by omega,by omega⟩)
     have HOK1:=hide (show som F m 0≤1∨((cnt s i F m 0:Nat):Int)≤R by
      have h:=LO.ok
      unfold som cnt
      rw[show max 0 F=F by omega]
      rcases h with h | h
      ·exact .inl (by omega)
      ·exact .inr h)
     have HTOP:=hide (show cnt s i F m c=0∧som F m c=0∧hng F m c=true from cnt_top (by have:=LO.mt;omega) (by rw[←HCC.out];exact Nat.le_refl _));by_cases hkl:k<K
     case' pos =>
      have hkl1:(k:Int)<(K:Int):=by omega
      obtain⟨gL,hgL,cl⟩:=HCL.out wr HBk.out k hkl;subst hgL;rw[←hTe,←hPT]at cl;have C12b:=hide (C12.out wr HBk.out T hTc);rw[←hPT]at C12b;have hpf:PF<PT:=by
       rw[hPF,hPT];exact(HPL.out F T (by omega) hTc).2 (hlt hkl).1
      have hps:PT<s.size:=by
       rw[hPT,←HPE.out];exact(HPL.out T c hTc (Nat.le_refl _)).2 (by have:=(hlt hkl).2;have:=HCC.out;omega)
      have d1:decide ((PT:Int)≤(PF:Int))=false:=by simp;omega
      have d1N:decide (PT≤PF)=false:=by simp;omega
      have d2:decide ((s.size:Int)≤(PT:Int))=false:=by simp;omega
      have d2N:decide (s.size≤PT)=false:=by simp;omega
      clear hPF hPT hFe hTe hnx LO hlt hpf hps;go_wp2_with fail;refine C12b.out.mono ?_;rintro e w5 ⟨rfl,hb5⟩;have HB5:=hide (HBk.out.trans (hb5.mono HBk.out.size));clear hb5 C12b cl;go_wp2_with fail;clear d1 d1N d2 d2N hkl1
     case' neg =>
      have hkl1:¬(k:Int)<(K:Int):=by omega
      have hkd:decide ((k:Int)<(K:Int))=false:=by simp;omega
      have HB5:=hide HBk.out;obtain rfl:PT=s.size:=by rw[hPT,hTe,show k=K by omega,HLT.out.2,HPE.out]
      clear hPF hPT hFe hTe hnx LO hlt;go_wp2_with fail;clear hkl1 hkd
     all_goals (
      go_loopw [15,16,17,18] (fun nv sv hv iv wr=>∃(j:Nat) (x:Int),j≤c∧iv=.int .i64 x∧Hid (x=(j:Int) - 1)∧(-1≤x∧x≤4096)∧nv=.int .i64 (cnt s i F m j:Nat)∧sv=.int .i64 (som F m j:Nat)∧hv=.bool (hng F m j)∧Hid (Below w4.heap.size w4 wr)) (fun _ _ _ iv _=>(intOf iv+1).toNat)
      case atStart=>exact⟨c,(c:Int) - 1,Nat.le_refl _,by go_num,hide rfl,by omega,by rw[HTOP.out.1];rfl,by rw[HTOP.out.2.1];rfl,by rw[HTOP.out.2.2],HB5⟩
      case round =>
       obtain⟨j,x,hjc,rfl,HX,hxb,rfl,rfl,rfl,HBj⟩:=hrel
       cases j with
       | zero =>
         have hx1:x=-1:=by have:=HX.out;omega
         subst hx1
         have hok:=HOK1.out
         have hb1:=(HCNB.out 0).1
         have hb2:=(HCNB.out 0).2
         generalize cnt s i F m 0=cN at *
         generalize som F m 0=sN at *
         generalize hng F m 0=hN at *
         clear hxb
         by_cases hc1:(cN:Int)≤R
         ·have e1:¬R<(cN:Int):=by omega
          have e2:decide (R<(cN:Int))=false:=by simp;omega
          clear hok
          go_wp2
          go_roundw
          case rel=>exact⟨k+1,_,by go_num,rfl,by omega,hide HNX.out,HBj⟩
          case measure=>(simp[intOf] <;> omega)
         ·have e1:R<(cN:Int):=by omega
          have hs2:sN≤1:=by omega
          have e2:¬(1:Int)<(sN:Int):=by omega
          have e3:decide ((1:Int)<(sN:Int))=false:=by simp;omega
          have e3N:decide (1<sN)=false:=by simp;omega
          clear hok hc1 hs2
          go_wp2
          go_roundw
          case rel=>exact⟨k+1,_,by go_num,rfl,by omega,hide HNX.out,HBj⟩
          case measure=>(simp[intOf] <;> omega)
       | succ j =>
         have hx1:x=(j:Int):=by have:=HX.out;omega
         subst hx1
         have cb0:=HCB.out wr HBj.out j (by omega)
         have cb1:=HCB.out wr HBj.out (j+1) hjc
         have HCBj:=hide (fun(Y:World) (hY:Below w4.heap.size w4 Y)=>And.intro (HCB.out Y hY j (by omega)) (HCB.out Y hY (j+1) hjc))
         have hAB:=HRL.out j (by omega)
         have hBn:=HRI.out (j+1) hjc
         have hb1:=(HCNB.out (j+1)).1
         have hb2:=(HCNB.out (j+1)).2
         obtain⟨A,hA⟩:∃A,A=nix (bix s i) j:=⟨_,rfl⟩
         obtain⟨B,hB⟩:∃B,B=nix (bix s i) (j+1):=⟨_,rfl⟩
         obtain⟨PJ,hPJ⟩:∃PJ,PJ=pos s A:=⟨_,rfl⟩
         obtain⟨PJ1,hPJ1⟩:∃PJ1,PJ1=pos s B:=⟨_,rfl⟩
         rw[←hA,←hPJ]at cb0
         rw[←hB,←hPJ1]at cb1
         rw[←hA,←hB,←hPJ,←hPJ1]at HCBj
         rw[←hA,←hB]at hAB
         rw[←hB]at hBn
         have HAE:=hide hA
         have HBE:=hide hB
         have HPJ:=hide hPJ
         have HPJ1:=hide hPJ1
         have hPJb:PJ≤4096:=by
          rw[hPJ]
          have h1:=pos_le s (show A≤i by omega)
          have h2:=HE.out.1
          omega
         by_cases hjF:j<F
         ·have hlt1:PJ<PF:=by
                    rw[hPJ,hA,HPF.out]
                    exact(HPL.out j F (by omega) (by omega)).2 hjF
          have e1:(PJ:Int)<(PF:Int):=by omega
          have HC:=hide (cnt_out (s:=s) (n:=i) (m:=m) hjF)
          clear hA hB hPJ hPJ1 hlt1
          go_wp2
          go_roundw
          case rel=>exact⟨j,_,by omega,by go_num,hide rfl,by omega,by rw[HC.out.1],by rw[HC.out.2.1],by rw[HC.out.2.2],HBj⟩
          case measure=>(simp[intOf] <;> omega)
         ·by_cases hjT:T≤j
          ·have hge:PF≤PJ:=by
               have h2:=mt (HPL.out j F (by omega) (by omega)).1 (by omega)
               rw[←HPF.out,←hA,←hPJ]at h2
               omega
           have e2:=Nat.le_of_not_lt (mt (HPL.out j T (by omega) hTc).1 (by omega))
           rw[←HPT.out,←hA,←hPJ]at e2
           have e2:=Int.ofNat_le.2 e2
           have e1:decide ((PJ:Int)<(PF:Int))=false:=by simp;omega
           have e1P:¬(PJ:Int)<(PF:Int):=by omega
           have e1N:decide (PJ<PF)=false:=by simp;omega
           have HC:=hide (And.intro (cnt_top (s:=s) (n:=i) (F:=F) (m:=m) (j:=j) (by have:=HMT.out;omega) (by have:=HCC.out;omega)) (cnt_top (s:=s) (n:=i) (F:=F) (m:=m) (j:=j+1) (by have:=HMT.out;omega) (by have:=HCC.out;omega)))
           clear hA hB hPJ hPJ1 hge
           go_wp2
           go_roundw
           case rel=>exact⟨j,_,by omega,by go_num,hide rfl,by omega,by rw[HC.out.1.1,HC.out.2.1],by rw[HC.out.1.2.1,HC.out.2.2.1],by rw[HC.out.1.2.2,HC.out.2.2.2],HBj⟩
           case measure=>(simp[intOf] <;> omega)
          ·have hge:PF≤PJ:=by
               have h2:=mt (HPL.out j F (by omega) (by omega)).1 (by omega)
               rw[←HPF.out,←hA,←hPJ]at h2
               omega
           have h1:=(HPL.out j T (by omega) hTc).2 (by omega)
           rw[←hA,←hPJ]at h1
           obtain⟨e2,e2P,e2N⟩:=le_f HPT.out h1
           clear h1
           have e1:decide ((PJ:Int)<(PF:Int))=false:=by simp;omega
           have e1P:¬(PJ:Int)<(PF:Int):=by omega
           have e1N:decide (PJ<PF)=false:=by simp;omega
           have hci:=cnt_in HLO.out (j:=j) (by omega) (by omega)
           rw[←hA,←hB]at hci
           have HKC:=hide (show blk s i j=(Tabs.look Tabs.classTab (rune s A) == 12) by rw[hA];rfl)
           have HMO:=hide (fun(a b:Nat) (h:a<b)=>pos_mono s a b h)
           have HML:=hide (fun(a b:Nat) (h:a≤b)=>pos_le s h)
           obtain⟨c0,hc0⟩:∃c0,c0=cnt s i F m (j+1):=⟨_,rfl⟩
           obtain⟨s0,hs0⟩:∃s0,s0=som F m (j+1):=⟨_,rfl⟩
           obtain⟨h0,hh0⟩:∃h0,h0=hng F m (j+1):=⟨_,rfl⟩
           obtain⟨bb,hbb⟩:∃bb,bb=blk s i j:=⟨_,rfl⟩
           rw[←hc0,←hs0,←hh0,←hbb]at hci
           rw[←hbb]at HKC
           rw[←hc0]at hb1
           rw[←hs0]at hb2
           rw[←hc0,←hs0,←hh0]
           have HCI:=hide hci
           clear hA hB hPJ hPJ1 hge hci hc0 hs0 hh0 hbb
           go_wp2_with fail
           clear e1 e1P e1N e2 e2P e2N cb0 cb1
           go_loopw [19,20,21] (fun sv bv qv wr=>∃q:Nat,q≤i∧qv=.int .i64 q∧sv=.int .i64 (szt A B q:Nat)∧bv=.bool (decide (A<q) && bb)∧Hid (Below w4.heap.size w4 wr)) (fun _ _ qv _=>i - (intOf qv).toNat)
           case atStart=>exact⟨0,Nat.zero_le _,rfl,by rw[show szt A B 0=0 by unfold szt;omega];rfl,by simp,HBj⟩
           case round =>
               obtain⟨q,hqi,rfl,rfl,rfl,HBq⟩:=hrel
               by_cases hq:q<i
               ·have hqI:(q:Int)<(i:Int):=by omega
                obtain⟨gR,hgR,cr0,cr1⟩:=HCR.out wr HBq.out q hq
                subst hgR
                obtain⟨cb0,cb1⟩:=HCBj.out wr HBq.out
                obtain⟨PQ,hPQ⟩:∃PQ,PQ=pos s q:=⟨_,rfl⟩
                rw[←hPQ]at cr1
                have cr0d:∀nq,(wr.drewN nq).cell? ⟨gR,q * 3,none⟩=some (.int .i32 (rune s q)):=fun _=>cr0
                have cr1d:∀nq,(wr.drewN nq).cell? ⟨gR,q * 3+1,none⟩=some (.int .i64 ((PQ:Nat):Int)):=fun _=>cr1
                have cb0d:∀nq,(wr.drewN nq).cell? ⟨gB,j,none⟩=some (.int .i64 ((PJ:Nat):Int)):=fun _=>cb0
                have hsz:szt A B q≤4096:=by unfold szt;omega
                by_cases hqA:q<A
                ·have hl:PQ<PJ:=by rw[hPQ,HPJ.out];exact HMO.out q A hqA
                 have f1:decide ((PJ:Int)≤(PQ:Int))=false:=by simp;omega
                 have f1P:¬(PJ:Int)≤(PQ:Int):=by omega
                 have f1N:decide (PJ≤PQ)=false:=by simp;omega
                 have f2:((PQ:Int) == (PJ:Int))=false:=by simp;omega
                 have f2N:(PQ == PJ)=false:=by simp;omega
                 have f2P:¬(PQ:Int)=(PJ:Int):=by omega
                 have HSZ:=hide (szt_out (a:=A) (b:=B) (j:=q) (.inl hqA))
                 have HBL:=hide (show(decide (A<q+1) && bb)=(decide (A<q) && bb) by rw[decide_eq_false (by omega),decide_eq_false (by omega)])
                 generalize szt A B q=sz at *
                 generalize (decide (A<q) && bb)=b1 at *
                 clear hPQ hl
                 go_wp2_with fail
                 go_quiet (fail)
                 go_wp2_with fail
                 go_quiet (fail)
                 go_wp2
                 go_roundw
                 case rel=>exact⟨q+1,by omega,by go_num,by rw[HSZ.out],by rw[HBL.out],hide (bdrew HBq.out _)⟩
                 case measure=>(simp[intOf] <;> omega)
                ·by_cases hqe:q=A
                 ·subst hqe
                  obtain rfl:PQ=PJ:=by rw[hPQ,HPJ.out]
                  have hl:PQ<PJ1:=by rw[hPQ,HPJ1.out];exact HMO.out q B hAB
                  have f1:(PQ:Int)≤(PQ:Int):=Int.le_refl _
                  have f2:(PQ:Int)<(PJ1:Int):=by omega
                  have f3:((PQ:Int) == (PQ:Int))=true:=by simp
                  have HSZ:=hide (szt_in (a:=q) (b:=B) (j:=q) (Nat.le_refl _) hAB)
                  have HBL:=hide (show(decide (q<q+1) && bb)=bb by simp)
                  have C13b:=hide (fun(Y:World) (hY:Below w4.heap.size w4 Y)=>C13.out Y hY (rune s q))
                  generalize szt q B q=sz at *
                  generalize (decide (q<q) && bb)=b1 at *
                  generalize rune s q=rr at *
                  generalize Tabs.look Tabs.classTab rr=kk at *
                  clear hPQ hl
                  go_wp2_with fail
                  go_quiet (fail)
                  go_wp2_with fail
                  go_quiet (fail)
                  go_wp2_with fail
                  refine(C13b.out _ (bdrew HBq.out _)).mono ?_
                  rintro e w6 ⟨rfl,hb6⟩
                  have HB6:=hide ((bdrew HBq.out _).trans (hb6.mono (bdrew HBq.out _).size))
                  clear hb6 C13b cr0 cr1 cb0 cb1 cr0d cr1d cb0d
                  go_wp2
                  go_roundw
                  case rel=>exact⟨q+1,by omega,by go_num,by rw[HSZ.out];go_num,by rw[HBL.out,HKC.out],HB6⟩
                  case measure=>(simp[intOf] <;> omega)
                 ·by_cases hqB:q<B
                  ·have hl:PJ<PQ∧PQ<PJ1:=by
                    have h1:=HMO.out A q (by omega)
                    have h2:=HMO.out q B hqB
                    rw[←HPJ.out,←hPQ]at h1
                    rw[←HPJ1.out,←hPQ]at h2
                    exact⟨h1,h2⟩
                   have f1:(PJ:Int)≤(PQ:Int):=by omega
                   have f2:(PQ:Int)<(PJ1:Int):=by omega
                   have f3:((PQ:Int) == (PJ:Int))=false:=by simp;omega
                   have f3N:(PQ == PJ)=false:=by simp;omega
                   have f3P:¬(PQ:Int)=(PJ:Int):=by omega
                   have HSZ:=hide (szt_in (a:=A) (b:=B) (j:=q) (by omega) hqB)
                   have HBL:=hide (show(decide (A<q+1) && bb)=(decide (A<q) && bb) by rw[decide_eq_true (by omega),decide_eq_true (by omega)])
                   generalize szt A B q=sz at *
                   generalize (decide (A<q) && bb)=b1 at *
                   clear hPQ hl
                   go_wp2_with fail
                   go_quiet (fail)
                   go_wp2_with fail
                   go_quiet (fail)
                   go_wp2
                   go_roundw
                   case rel=>exact⟨q+1,by omega,by go_num,by rw[HSZ.out];go_num,by rw[HBL.out],hide (bdrew HBq.out _)⟩
                   case measure=>(simp[intOf] <;> omega)
                  ·have hl:PJ<PQ∧PJ1≤PQ:=by
                    have h1:=HMO.out A q (by omega)
                    have h2:=HML.out B q (by omega)
                    rw[←HPJ.out,←hPQ]at h1
                    rw[←HPJ1.out,←hPQ]at h2
                    exact⟨h1,h2⟩
                   have f1:(PJ:Int)≤(PQ:Int):=by omega
                   have f2:decide ((PQ:Int)<(PJ1:Int))=false:=by simp;omega
                   have f2N:decide (PQ<PJ1)=false:=by simp;omega
                   have f2P:¬(PQ:Int)<(PJ1:Int):=by omega
                   have f3:((PQ:Int) == (PJ:Int))=false:=by simp;omega
                   have f3N:(PQ == PJ)=false:=by simp;omega
                   have f3P:¬(PQ:Int)=(PJ:Int):=by omega
                   have HSZ:=hide (szt_out (a:=A) (b:=B) (j:=q) (.inr (by omega)))
                   have HBL:=hide (show(decide (A<q+1) && bb)=(decide (A<q) && bb) by rw[decide_eq_true (by omega),decide_eq_true (by omega)])
                   generalize szt A B q=sz at *
                   generalize (decide (A<q) && bb)=b1 at *
                   clear hPQ hl
                   go_wp2_with fail
                   go_quiet (fail)
                   go_wp2_with fail
                   go_quiet (fail)
                   go_wp2
                   go_roundw
                   case rel=>exact⟨q+1,by omega,by go_num,by rw[HSZ.out],by rw[HBL.out],hide (bdrew HBq.out _)⟩
                   case measure=>(simp[intOf] <;> omega)
               ·obtain rfl:q=i:=by omega
                have hqd:decide ((q:Int)<(q:Int))=false:=by simp
                have hsz:szt A B q=B - A:=by unfold szt;omega
                rw[hsz,show(decide (A<q) && bb)=bb by rw[decide_eq_true (by omega),Bool.true_and]]
                have hci:=HCI.out
                have hba:B - A≤4096:=by omega
                have HBA:=hide (show((B - A:Nat):Int)+(A:Int)=(B:Int) by omega)
                generalize B - A=sz at *
                clear hsz HCI
                cases h0 <;> cases bb
                case true.true =>
                 have HN:=hide (And.intro hci.1 (hci.2.1 hci.1))
                 clear hci
                 go_wp2
                 go_roundw
                 case rel=>exact⟨j,_,by omega,by go_num,hide rfl,by omega,by rw[HN.out.2.1],by rw[HN.out.2.2],by rw[HN.out.1];rfl,HBq⟩
                 case measure=>(simp[intOf] <;> omega)
                all_goals (
                 have HN:=hide (And.intro hci.1 (hci.2.2 hci.1))
                 clear hci
                 go_wp2
                 go_roundw
                 case rel=>exact⟨j,_,by omega,by go_num,hide rfl,by omega,by rw[HN.out.2.1];go_num,by rw[HN.out.2.2];go_num,by rw[HN.out.1];rfl,HBq⟩
                 case measure=>(simp[intOf] <;> omega)))
    ·have hkI:¬(k:Int)≤(K:Int):=by omega
     have hkd:decide ((k:Int)≤(K:Int))=false:=by simp;omega
     go_wp2;go_ret;exact⟨rfl,HW4.out.trans (HBk.out.mono HW4.out.size)⟩
theorem fits_any (s:ByteArray)(R:Int)(w:World)(hR:-9223372036854775808≤R∧R≤9223372036854775807)(hF:Floor w)(hT:Lib.Utf8Tabs 8 9 w) :
 Calls Tryz.prog 5 #[.string s,.int .i64 R] w fun e w'=>e=.returned (.bool true)∧Below w.heap.size w w':=by
 by_cases h:s.size≤4096
 ·exact fits_short s R w h hR hF hT
 ·exact fits_long s R w hF (by omega)
end Go.Proofs.YtnakejhohdbfdacGreatDoor.Cls.Wr

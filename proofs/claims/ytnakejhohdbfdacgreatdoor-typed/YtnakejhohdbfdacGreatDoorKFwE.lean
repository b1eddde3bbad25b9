import Derived.Laws.AppendOwnNone
import Derived.Test.YtnakejhohdbfdacGreatDoorKFwD
namespace Go.Proofs.YtnakejhohdbfdacGreatDoor.Cls.Wr
open Go.RowKit Dec Kin Bnd Lay Lev Go.Shelf
attribute [local go_sem] Oper.semAt_some
theorem pcl_cells (s:ByteArray)(n g o cW:Nat){c i:Nat}(h:i<c):(pcl s n g o cW c)[i * 3]?=some (.int .i64 ((pos s (nix (bix s n) i):Nat):Int))∧(pcl s n g o cW c)[i * 3+1]?=some (.bool (blk s n i))∧(pcl s n g o cW c)[i * 3+2]?=some (.slice (some ⟨g,o+nix (bix s n) i,none⟩) (nix (bix s n) (i+1) - nix (bix s n) i) (cW - nix (bix s n) i)) :=
 ⟨by have:=pcl_at s n g o cW c i h 0 (by decide);simpa[pc] using this,by have:=pcl_at s n g o cW c i h 1 (by decide);simpa[pc] using this,by have:=pcl_at s n g o cW c i h 2 (by decide);simpa[pc] using this⟩
theorem slice_rest (gp f k c cr:Nat)(h:f+k≤c):∀X:World,(Instr.slice 100 (.slice (some ⟨gp,f * 3,none⟩) (c - f) (cr - f)) (some (.int .i64 k)) none none).run Tryz.prog X=.ok (.slice (if cr - f=k then some (⟨gp,f * 3,none⟩:Addr)else some ⟨gp,f * 3+k * 3,none⟩) (c - f - k) (cr - f - k)) X:=fun X=>by
 have hmI:(k:Int)≤((c - f:Nat):Int):=by omega
 generalize c - f=len at *;generalize cr - f=cp at *;generalize f * 3=q at *;clear h;go_simp
set_option maxRecDepth 10000 in
set_option maxHeartbeats 8000000 in
theorem wrapP_good (s:ByteArray)(w:World)(hs:s.size≤4096)(n:Nat)(hend:Dec.Ends s n)(hT:Lib.Utf8Tabs 8 9 w)(h0:TabAt w 0 Tabs.kindTab)(h3:TabAt w 1 Tabs.lowTab)(h4:TabAt w 2 Tabs.highTab)(W:List Int)(a:Option Addr)(g o cW:Nat)(hW:W.length=n)(ha:0<n→a=some ⟨g,o,none⟩)(hcW:n≤cW)
 (hc:∀Y,Below w.heap.size w Y→∀i,i<n→Y.cell? ⟨g,o+i,none⟩=some (.int .i64 (nth W i))) (R:Int) (hR:-9223372036854775808≤R∧R≤9223372036854775807) :
 Calls Tryz.prog 19 #[.string s,.slice a n cW,.int .i64 R] w fun e w'=>∃v,e=.returned v∧w'.ownsRow w.heap.size 3 1 v (wrp s n W R).length (ints64 (wrp s n W R))∧Below w.heap.size w w':=by
 obtain⟨i0,hi,hz0,hz1,hz2⟩:=info_parts info3;have C13:=hide (count_any s w hs);rw[count_ends hend]at C13;have C14:=hide (fun(Y:World) (hb:Below w.heap.size w Y)=>pieces_any s Y hs n hend (tabs_below hT hb) (h0.below (h0.lt (by decide)) hb) (h3.below (h3.lt (by decide)) hb) (h4.below (h4.lt (by decide)) hb) a g o cW ha hcW);have HE:=hide hend;have HCL:=hide hc;have hns:n≤s.size:=by have:=le_pos s n;have:=hend.1;omega
 have hcn:cn s n≤n:=by have:=(bix_len s n).1;unfold cn;omega
 have HWR:=hide (show wrp s n W R=bps s n (brk (ln1 (blk s n) (cw s n W) R (cn s n)) (cn s n) 0)from rfl);have HX:=hide (fun i (h:i<cn s n)=>cw_in (s:=s) (n:=n) (W:=W) (by omega) i h);have HRI:=hide (fun i (h:i<cn s n)=>ri_lt (s:=s) (n:=n) h);have HRJ:=hide (fun i (h:i<cn s n)=>ri_le (s:=s) (n:=n) (i:=i+1) h);obtain⟨c,hcc⟩:∃c,c=cn s n:=⟨_,rfl⟩;rw[←hcc]at C14 hcn HWR HX HRI HRJ;clear hT h0 h3 h4 hend hc hcc ha hW;go_enter Tryz.func19,Tryz.ntmps19;go_wp2_with fail;refine C13.out.mono ?_;rintro e w1 ⟨rfl,hb1⟩;have HB1:=hide hb1;have C14b:=hide (C14.out w1 hb1);clear hb1 C13 C14;go_wp2_with fail;refine C14b.out.mono ?_;rintro e w2 ⟨vp,rfl,own2,hb2⟩;have HB2:=hide (HB1.out.trans (hb2.mono HB1.out.size));have OP:=hide own2;obtain⟨ap,cr,hvp⟩:∃ap cr,vp=.slice ap c cr:=by
  rcases own2.2 with⟨h,h0⟩ | ⟨g,cap,cur,h,_⟩
  ·exact⟨_,_,by rw[h,h0]⟩
  ·exact⟨_,_,h⟩
 subst hvp;have hcr:c≤cr:=by
  rcases own2.2 with⟨h,h0⟩ | ⟨g',cap',cur,hv,hg,hh,hn,_⟩
  ·cases h;omega
  ·cases hv;exact hn
 obtain⟨gp,hgp⟩:∃gp,0<c→ap=some ⟨gp,0,none⟩∧gp<w2.heap.size:=by
  rcases Nat.eq_zero_or_pos c with h | h
  ·exact⟨0,fun h'=>by omega⟩
  ·obtain⟨gp,cp,hv⟩:=owns_shape_pos h own2
   cases hv;exact⟨gp,fun _=>⟨rfl,(owns_at own2).2⟩⟩
 have HGP:=hide hgp;have HPC:Hid (∀Y,Below w2.heap.size w2 Y→∀i,i<c→Y.cell? ⟨gp,i * 3,none⟩=some (.int .i64 ((pos s (nix (bix s n) i):Nat):Int))∧Y.cell? ⟨gp,i * 3+1,none⟩=some (.bool (blk s n i))∧Y.cell? ⟨gp,i * 3+2,none⟩=some (.slice (some ⟨g,o+nix (bix s n) i,none⟩) (nix (bix s n) (i+1) - nix (bix s n) i) (cW - nix (bix s n) i))):=fun Y hY i hi=>by
  obtain⟨h1,h2⟩:=HGP.out (by omega);have h:=OP.out;rw[h1]at h;obtain⟨p0,p1,p2⟩:=pcl_cells s n g o cW hi;exact⟨((hY.cell (p:=⟨gp,i * 3,none⟩) h2).trans (h.cellAt _ (by omega))).trans p0,((hY.cell (p:=⟨gp,i * 3+1,none⟩) h2).trans (h.cellAt _ (by omega))).trans p1,((hY.cell (p:=⟨gp,i * 3+2,none⟩) h2).trans (h.cellAt _ (by omega))).trans p2⟩
 have HLV:Hid (∀Y,Below w2.heap.size w2 Y→∀i,i<c→∀L,-1≤L∧L≤9223372036854775807→Calls Tryz.prog 71 #[.agg #[.int .i64 ((pos s (nix (bix s n) i):Nat):Int),.bool (blk s n i),.slice (some ⟨g,o+nix (bix s n) i,none⟩) (nix (bix s n) (i+1) - nix (bix s n) i) (cW - nix (bix s n) i)],.int .i64 L] Y fun e w'=>e=.returned (.int .i64 (lft L (cw s n W i)))∧Below Y.heap.size Y w'):=fun Y hY i hi L hL=>by
  have h1:=HRI.out i hi;have h2:=HRJ.out i hi;refine leaves_any W (nix (bix s n) i) _ _ g (o+nix (bix s n) i) _ _ L Y hL (by omega) (by omega) (fun Z hZ j hj=>?_);rw[Nat.add_assoc];exact HCL.out Z (HB2.out.trans ((hY.trans (hZ.mono hY.size)).mono HB2.out.size)) _ (by omega)
 have HLN:Hid (∀Y,Below w2.heap.size w2 Y→∀f,f≤c→∀a' cp',(f<c→a'=some ⟨gp,f * 3,none⟩)→Calls Tryz.prog 36 #[.slice a' (c - f) cp',.int .i64 R] Y fun e w'=>e=.returned (.int .i64 (ln1 (blk s n) (cw s n W) R c f:Nat))∧Below Y.heap.size Y w'):=fun Y hY f hf a' cp' ha' =>
  line_any (blk s n) (cw s n W) (fun i=>((pos s (nix (bix s n) i):Nat):Int)) (fun i=>some ⟨g,o+nix (bix s n) i,none⟩) (fun i=>nix (bix s n) (i+1) - nix (bix s n) i) (fun i=>cW - nix (bix s n) i) R c f gp (f * 3) cp' Y (by omega) hf a' ha' HX.out hR
   (fun Z hZ d hd=>by
     have h:=HPC.out Z (hY.trans (hZ.mono hY.size)) (f+d) hd
     rw[show f * 3+d * 3=(f+d) * 3 by omega]
     exact h)
   (fun Z hZ i hi L hL=>HLV.out Z (hY.trans (hZ.mono hY.size)) i hi L hL)
 obtain⟨oo,hoo⟩:∃oo,oo=ln1 (blk s n) (cw s n W) R c:=⟨_,rfl⟩;have HON:=hide (show(∀f,f<c→0<oo f∧f+oo f≤c)∧oo c=0 from⟨fun f hf=>by rw[hoo];exact ln1_in hf,by rw[hoo];unfold ln1;rw[Nat.sub_self];rfl⟩);rw[←hoo]at HWR HLN;clear own2 hb2 hgp C14b hoo;go_wp2_with fail;go_loopw [7,8] (fun bv rv wr=>∃(f:Nat) (l:List Nat) (a':Option Addr),f≤c∧rv=.slice a' (c - f) (cr - f)∧(f<c→a'=some ⟨gp,f * 3,none⟩)∧l.length≤f∧(f=c→c=0)∧Hid (bps s n (l++brk oo c f)=wrp s n W R)∧Hid (wr.ownsRow w2.heap.size 3 1 bv l.length (ints64 (bps s n l)))∧Hid (Below w2.heap.size w2 wr)) (fun _ rv _=>match rv with | .slice _ k _=>k | _=>0)
 case atStart=>exact⟨0,[],ap,Nat.zero_le _,by simp,fun h=>(HGP.out h).1,Nat.le_refl _,fun h=>h.symm,hide HWR.out.symm,hide (World.ownsRow_nil _ _ _ _),hide (Below.refl _ _)⟩
 case round =>
  obtain⟨f,l,a',hf,rfl,ha',hlf,hfc0,HL,HO,HB⟩:=hrel;have H15:=hide (HLN.out wr HB.out f hf a' (cr - f) ha');by_cases hfc:f<c
  ·have haa:=ha' hfc
   subst haa;obtain⟨h1,h2⟩:=HON.out.1 f hfc;have hsl:=slice_rest gp f (oo f) c cr h2;obtain⟨a2,ha2⟩:∃a2,a2=if cr - f=oo f then some (⟨gp,f * 3,none⟩:Addr)else some ⟨gp,f * 3+oo f * 3,none⟩:=⟨_,rfl⟩
   rw[←ha2]at hsl;obtain⟨t1,ht1⟩:∃t1,t1=f+oo f:=⟨_,rfl⟩;have HT1:=hide ht1;rw[show c - f - oo f=c - t1 by omega,show cr - f - oo f=cr - t1 by omega]at hsl;have HA2:=hide (show t1<c→a2=some ⟨gp,t1 * 3,none⟩from fun h=>by rw[ha2,if_neg (by omega),show f * 3+oo f * 3=t1 * 3 by omega]);have HOP:=hide h1;generalize oo f=k at H15 hsl;have hcf:c - f≤4096:=by omega
   clear ha2 ht1 h1 ha' hfc0;go_wp2_with fail;refine H15.out.mono ?_;rintro e w3 ⟨rfl,hb3⟩;have HB3:=hide (HB.out.trans (hb3.mono HB.out.size));have HO3:=hide (owns_below HO.out hb3);clear hb3 H15;by_cases ht:t1<c
   ·have haa:=HA2.out ht
    subst haa;have hlz:((c - t1:Nat):Int)≠0:=by omega
    have hlzb:(((c - t1:Nat):Int) == 0)=false:=by simp;omega
    have hlp:0<c - t1:=by omega
    have hlpI:(0:Int)<((c - t1:Nat):Int):=by omega
    obtain⟨p0,_,_⟩:=HPC.out w3 HB3.out t1 ht;obtain⟨y,hy⟩:∃y:Int,y=((pos s (nix (bix s n) t1):Nat):Int):=⟨_,rfl⟩;rw[←hy]at p0;have HYE:=hide hy;obtain⟨lr,hlr⟩:∃lr,lr=c - t1:=⟨_,rfl⟩;rw[←hlr]at hsl hlz hlzb hlp hlpI;have HLR:=hide hlr;have hszr:=HB3.out.size;have HO4:=hide (HO3.out.alloc (.cells #[.int .i64 y] 3));have HB4:=hide (HB3.out.alloc hszr (.cells #[.int .i64 y] 3));clear hy hlr;go_wp2_with (at_builtin;refine wpList_append_own _ rfl _ _ 32 rfl w2.heap.size 3 i0 _ 1 8 Tryz.underlying32 hi hz0 hz1 hz2 rfl (by decide) _ _ _ rfl HO4.out ⟨w3.heap.size,0,none⟩ 1 1 [.int .i64 y] rfl rfl (cell_one_new _ _ _) (one_cell _) (by unfold maxLen;omega) (by omega) (by simp;omega) ?_);intro v' w4 own4 hgrow hnil;have HO5:=hide own4;have HB5:=hide (HB4.out.grown hgrow (by simp;omega) (by intro x hx;exact(HO4.out.lt x hx).1));clear own4 hgrow hnil HO4 HB4;go_wp2;exact⟨⟨t1,l++[t1],_,by omega,by rw[HLR.out],fun _=>rfl,by rw[List.length_append,List.length_singleton];have:=HT1.out;have:=HOP.out;omega,fun h=>absurd h (by omega),hide (by rw[←HL.out,List.append_assoc,brk_more HOP.out (by rw[←HT1.out];exact ht),←HT1.out];rfl),hide (by rw[bps_snoc,List.length_append,List.length_singleton,←ints_snoc,←HYE.out];exact HO5.out),HB5⟩,by show lr<c - f;have:=HLR.out;have:=HT1.out;have:=HOP.out;omega⟩
   ·have hlz:c - t1=0:=by omega
    rw[hlz]at hsl;have HBR:=hide (show brk oo c f=[]from brk_none (by have:=HT1.out;omega));go_wp2;go_ret;have hL:=HL.out;rw[HBR.out,List.append_nil]at hL;refine⟨_,rfl,?_,HB2.out.trans (HB3.out.mono HB2.out.size)⟩;rw[←hL,show(bps s n l).length=l.length by simp[bps]];exact owns_low HO3.out HB2.out.size
  ·obtain rfl:f=c:=by omega
   have hc0:f=0:=hfc0 rfl;subst hc0;have HBR:=hide (show brk oo 0 0=[]from brk_none (Nat.zero_le _));rw[HON.out.2]at H15;have hl0:l=[]:=List.length_eq_zero_iff.1 (by omega);subst hl0;go_wp2_with fail;refine H15.out.mono ?_;rintro e w3 ⟨rfl,hb3⟩;have HB3:=hide (HB.out.trans (hb3.mono HB.out.size));have HO3:=hide (owns_below HO.out hb3);clear hb3 H15;go_wp2;go_ret;have hL:=HL.out;rw[HBR.out,List.append_nil]at hL;refine⟨_,rfl,?_,HB2.out.trans (HB3.out.mono HB2.out.size)⟩;rw[←hL];exact owns_low HO3.out HB2.out.size
def lst1 (w:World)(a:Option Addr)(l:List Int):Prop:=∀j,j<l.length→∃g o,a=some ⟨g,o,none⟩∧w.cell? ⟨g,o+j,none⟩=some (.int .i64 (nth l j))
theorem nth_at {l:List Int}{j:Nat}(h:j<l.length):(ints64 l)[j]?=some (.int .i64 (nth l j)):=by simp[ints64,nth,h]
theorem own_lst {w:World}{B:Nat}{a:Option Addr}{n c:Nat}{l:List Int}(h:w.ownsRow B 3 1 (.slice a n c) n (ints64 l))(hl:l.length=n):lst1 w a l:=fun j hj=>by
 obtain⟨g,cap,hv⟩:=owns_shape_pos (by omega) h;cases hv;exact⟨g,0,rfl,by rw[Nat.zero_add];exact(h.cellAt j (by omega)).trans (nth_at hj)⟩
theorem owns_any {w:World}{B:Nat}{e:TypeId}{v:Value}{n:Nat}{xs:List Value}{k:Nat}(h:w.ownsRow B e k v n xs):∃a c,v=.slice a n c∧n≤c:=by
 rcases h.2 with⟨h1,h0⟩ | ⟨g,cap,cur,h1,_,_,h2,_⟩
 ·exact⟨_,_,by rw[h1,h0],by omega⟩
 ·exact⟨_,_,h1,h2⟩
theorem wrap4 (s:ByteArray)(v:Value)(R:Int)(w:World)(P:Value→World→Prop)(h:Calls Tryz.prog 19 #[.string s,v,.int .i64 R] w fun e w'=>∃u,e=.returned u∧P u w') :
 Calls Tryz.prog 10 #[.string s,v,.int .i64 R] w fun e w'=>∃u,e=.returned u∧P u w':=by
 have H:=hide h;clear h;go_enter Tryz.func10,Tryz.ntmps10;go_wp2_with fail;refine H.out.mono ?_;rintro e w1 ⟨u,rfl,hp⟩;have HP:=hide hp;clear hp H;go_wp2;go_ret;exact⟨_,rfl,HP.out⟩
end Go.Proofs.YtnakejhohdbfdacGreatDoor.Cls.Wr

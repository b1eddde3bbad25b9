import Derived.Test.YtnakejhohdbfdacGreatDoorKMm
import Derived.Test.YtnakejhohdbfdacGreatDoorKMf
import Derived.Test.YtnakejhohdbfdacGreatDoorKMd
import Derived.Test.YtnakejhohdbfdacGreatDoorKPlE
import Derived.Test.YtnakejhohdbfdacGreatDoorKPwD
import Derived.Test.YtnakejhohdbfdacGreatDoorKDecLaw
import Derived.Test.YtnakejhohdbfdacGreatDoorKLdG
import Derived.Test.YtnakejhohdbfdacGreatDoorKLdH
import Derived.Test.YtnakejhohdbfdacGreatDoorKPvA
namespace Go.Proofs.YtnakejhohdbfdacGreatDoor
open Go.RowKit Lev
theorem look_in (P:Int→Prop)(h0:P 0):∀(l:List (Int × Int × Int)) (r:Int),(∀x∈l,P x.2.2)→P (Tabs.look l r)
 | [],_,_=>h0
 | x :: l,r,h=>by
   rw[Tabs.look];split
   ·exact h x List.mem_cons_self
   ·exact look_in P h0 l r (fun y hy=>h y (List.mem_cons_of_mem _ hy))
theorem class_in (r:Int):0≤Tabs.look Tabs.classTab r∧Tabs.look Tabs.classTab r≤22 :=
 look_in (fun c=>0≤c∧c≤22) (by decide) Tabs.classTab r (by decide)
theorem Kl_in (s:ByteArray)(n:Nat):∀i,0≤nth (Kl s n) i∧nth (Kl s n) i≤22:=fun i=>by
 by_cases h:i<n
 ·have e:nth (Kl s n) i=Tabs.look Tabs.classTab (Dec.rune s i):=by simp[nth,Kl,h]
  rw[e];exact class_in _
 ·have e:nth (Kl s n) i=0:=by simp[nth,Kl,h]
  rw[e];decide
end Go.Proofs.YtnakejhohdbfdacGreatDoor
namespace Go.Proofs.YtnakejhohdbfdacGreatDoor
open Go.RowKit Lev Lay Bnd
theorem chk_zero {s:ByteArray}{n:Nat}{b:Int}{W Br:List Int}(h:Dec.Ends s n)(hs:s.size≤400)(hb:b=0∨b=1∨b=2)(hc:chk s n (clsOf s n) b W Br=0) :
 W.length=n∧Lay.wOk W n=true∧Lay.brTo (bnd s n) s.size Br Br.length=true:=by
 rw[chk_in h hs hb]at hc;cases h1:okW W n
 ·rw[if_pos h1]at hc;cases hc
 ·cases h2:Lay.brTo (bnd s n) s.size Br Br.length
  ·rw[if_neg (by rw[h1];decide),if_pos h2]at hc;cases hc
  ·unfold okW at h1
   rw[Bool.and_eq_true]at h1;exact⟨of_decide_eq_true h1.1,h1.2,rfl⟩
def lvE (s:ByteArray)(n:Nat)(bs:Int)(Br:List Int):List Int:=lvs s (mixL (Kl s n) (levels (Rl s n) (Kl s n) bs) bs (edg (bix s n) (bnd s n) Br) 0) n
structure LP (w:World)(B P:Nat)(Bd V X:List Int)(r:Int)(Ls:List Ln)(v0 v1 v2 vL:Value)(hs:List Value):Prop where
 o:w.heap[P]?=some (.cells #[v0,v1,v2,vL,.int .i64 r] 148 (0,0))
 le:B≤P
 b:sl0 w B v0 Bd
 v:sl0 w B v1 V
 x:sl0 w B v2 X
 l:w.ownsRow B 69 4 vL Ls.length hs
 n:∃U,U≤w.heap.size∧lnsAt w B U hs Ls
theorem LP.fr {S:List Nat}{w w':World}{B P:Nat}{Bd V X:List Int}{r:Int}{Ls:List Ln}{v0 v1 v2 vL:Value}{hs:List Value}(h:LP w B P Bd V X r Ls v0 v1 v2 vL hs)(hf:Fr S w w')(hS:∀k∈S,k<B):LP w' B P Bd V X r Ls v0 v1 v2 vL hs:=by
 obtain⟨U,hU,hn⟩:=h.n;exact⟨obj_fr h.o hf (fun hm=>by have:=hS P hm;have:=h.le;omega),h.le,h.b.fr hf hS,h.v.fr hf hS,h.x.fr hf hS,owns_frB h.l hf hS,U,Nat.le_trans hU hf.size,hn.fr (fun _ _ _ _ _ _ h=>owns_frB h hf hS)⟩
theorem ei_ge {s:ByteArray}{n:Nat}{Br:List Int}(E:Edges s n Br):∀k,k≤Br.length+1→k≤eiOf s n Br k
 | 0,_=>Nat.zero_le _
 | k+1,h=>by
   have h1:=ei_ge E k (by omega);have h2:=E.mono k (k+1) (by omega) h;unfold eiOf at *;omega
theorem Kl_at (s:ByteArray){n i:Nat}(h:i<n):nth (Kl s n) i=Tabs.look Tabs.classTab (Dec.rune s i):=by simp[nth,Kl,h]
theorem tab_frS {S:List Nat}{w w':World}{g:Nat}{l:List (Int × Int × Int)}(h:Cls.TabAt w g l)(hf:Fr S w w')(hg:g ∉ S):Cls.TabAt w' g l:=fun i hi =>
 ⟨hf.cell (h i hi).1 hg,hf.cell (h i hi).2.1 hg,hf.cell (h i hi).2.2 hg⟩
theorem sl0_of {w:World}{B g c n:Nat}{l:List Int}(hl:l.length=n)(hg:B≤g)(hr:rowAt w g n l):sl0 w B (.slice (some ⟨g,0,none⟩) n c) l:=by
 subst hl;exact⟨_,_,rfl,.inr ⟨g,rfl,hg,hr⟩⟩
theorem raise_len (K C:List Int)(base:Int)(L:List Int):∀k,(raiseTo K C base k L).2.length=L.length
 | 0=>rfl
 | k+1=>by
   have ih:=raise_len K C base L k;rw[raiseTo];split <;> rw[List.length_set,ih]
theorem levels_len (R K:List Int)(base:Int)(hb:base=0∨base=1):(levels R K base).length=K.length:=by
 unfold levels;rw[raise_len];exact(emb_inv K base hb K.length (Nat.le_refl _)).len.1
theorem concat_edges (s:ByteArray)(Br:List Int)(aB:Option Addr)(cB:Nat)(w:World)(hB:slAd w (.slice aB Br.length cB) Br)(hl:Br.length≤1000) :
 Calls Tryz.prog 110 #[.slice (some ⟨w.heap.size+1+1,0,none⟩) 3 3] (((w.alloc (.cells #[.int .i64 0] 3)).alloc (.cells #[.int .i64 s.size] 3)).alloc (.cells #[.slice (some ⟨w.heap.size,0,none⟩) 1 1,.slice aB Br.length cB,.slice (some ⟨w.heap.size+1,0,none⟩) 1 1] 32))
  fun e w'=>∃g c,e=.returned (.slice (some ⟨g,0,none⟩) (Br.length+2) c)∧Br.length+2≤c∧w.heap.size≤g∧rowAt w' g (Br.length+2) (edL s Br)∧Fr [] w w':=by
 obtain⟨wc,hwc⟩:∃wc,wc=((w.alloc (.cells #[.int .i64 0] 3)).alloc (.cells #[.int .i64 s.size] 3)).alloc (.cells #[.slice (some ⟨w.heap.size,0,none⟩) 1 1,.slice aB Br.length cB,.slice (some ⟨w.heap.size+1,0,none⟩) 1 1] 32):=⟨_,rfl⟩;rw[←hwc];have hf:Fr [] w wc:=by rw[hwc];exact(((Fr.refl [] w).alloc _).alloc _).alloc _
 have hsz:wc.heap.size=w.heap.size+3:=by rw[hwc];simp
 have k0:wc.heap[w.heap.size]?=some (.cells #[.int .i64 0] 3 (0,0)):=by
  rw[hwc];exact obj_fr (obj_new w _) (((Fr.refl [] _).alloc _).alloc _) List.not_mem_nil
 have k1:wc.heap[w.heap.size+1]?=some (.cells #[.int .i64 s.size] 3 (0,0)):=by
  have h:=obj_fr (obj_new (w.alloc (.cells #[.int .i64 0] 3)) (.cells #[.int .i64 s.size] 3)) ((Fr.refl [] _).alloc (.cells #[.slice (some ⟨w.heap.size,0,none⟩) 1 1,.slice aB Br.length cB,.slice (some ⟨w.heap.size+1,0,none⟩) 1 1] 32)) List.not_mem_nil;rw[←hwc]at h;simpa using h
 have k2:wc.heap[w.heap.size+1+1]?=some (.cells #[.slice (some ⟨w.heap.size,0,none⟩) 1 1,.slice aB Br.length cB,.slice (some ⟨w.heap.size+1,0,none⟩) 1 1] 32 (0,0)):=by
  have h:=obj_new ((w.alloc (.cells #[.int .i64 0] 3)).alloc (.cells #[.int .i64 s.size] 3)) (.cells #[.slice (some ⟨w.heap.size,0,none⟩) 1 1,.slice aB Br.length cB,.slice (some ⟨w.heap.size+1,0,none⟩) 1 1] 32);rw[←hwc]at h;simpa using h
 clear hwc;obtain⟨L,hL⟩:∃L:Nat→List Int,L=fun i=>if i=0 then [0]else if i=1 then Br else [((s.size:Nat):Int)]:=⟨_,rfl⟩
 obtain⟨H,hH⟩:∃H:Nat→Value,H=fun i=>if i=0 then .slice (some ⟨w.heap.size,0,none⟩) 1 1 else if i=1 then .slice aB Br.length cB else .slice (some ⟨w.heap.size+1,0,none⟩) 1 1:=⟨_,rfl⟩
 have hcat:catTo L 3=edL s Br:=cat_edL s Br L (by rw[hL];rfl) (by rw[hL];rfl) (by rw[hL];rfl);have h:=concat_any L H (w.heap.size+1+1) 3 3 wc (by omega)
  (fun i hi=>by
    rcases(show i=0∨i=1∨i=2 by omega)with rfl | rfl | rfl
    ·rw[hH];exact obj_cell k2 (i:=0) rfl
    ·rw[hH];exact obj_cell k2 (i:=1) rfl
    ·rw[hH];exact obj_cell k2 (i:=2) rfl)
  (fun i hi=>by
    rcases(show i=0∨i=1∨i=2 by omega)with rfl | rfl | rfl
    ·rw[hH,hL]
     exact⟨_,_,rfl,.inr ⟨_,rfl,fun j hj=>by
      obtain rfl:j=0:=Nat.lt_one_iff.1 hj
      exact obj_cell k0 (i:=0) rfl⟩⟩
    ·rw[hH,hL];exact hB.fr hf
    ·rw[hH,hL]
     exact⟨_,_,rfl,.inr ⟨_,rfl,fun j hj=>by
      obtain rfl:j=0:=Nat.lt_one_iff.1 hj
      exact obj_cell k1 (i:=0) rfl⟩⟩)
  (by rw[hcat,edL_len];omega) (by rw[hcat,edL_len];omega)
 rw[hcat,edL_len]at h;refine h.mono ?_;rintro e w' ⟨g,c,rfl,own,hf2⟩;refine⟨g,c,rfl,owns_cap' own,by have:=(owns_at own).1;omega,fun j hj=>?_,hf.trans hf2⟩;rw[own.cellAt j (by omega),ints64_at (by rw[edL_len];exact hj)]
theorem sl0.low {w:World}{B B':Nat}{v:Value}{l:List Int}(h:sl0 w B v l)(hb:B'≤B):sl0 w B' v l:=by
 obtain⟨a,c,rfl,h0 | ⟨g,h1,h2,h3⟩⟩:=h
 ·exact⟨a,c,rfl,.inl h0⟩
 ·exact⟨a,c,rfl,.inr ⟨g,h1,Nat.le_trans hb h2,h3⟩⟩
theorem LP.low {w:World}{B B' P:Nat}{Bd V X:List Int}{r:Int}{Ls:List Ln}{v0 v1 v2 vL:Value}{hs:List Value}(h:LP w B P Bd V X r Ls v0 v1 v2 vL hs)(hb:B'≤B):LP w B' P Bd V X r Ls v0 v1 v2 vL hs:=by
 obtain⟨U,hU,hn⟩:=h.n;refine⟨h.o,Nat.le_trans hb h.le,h.b.low hb,h.v.low hb,h.x.low hb,owns_low h.l hb,U,hU,fun j l hj=>?_⟩;obtain⟨vO,vX,a1,a2,a3,a4,a5,a6,a7,a8⟩:=hn j l hj;exact⟨vO,vX,a1,a2,a3,a4,owns_low a5 hb,owns_low a6 hb,a7,a8⟩
set_option maxRecDepth 10000 in
set_option maxHeartbeats 4000000 in
theorem layP_pos (s:ByteArray)(b:Int)(vW vB:Value)(W Br:List Int)(n:Nat)(w:World)(hs:s.size≤400)(hb:b=0∨b=1∨b=2)(hF:Floor w)(hend:Dec.Ends s n)(hn:0<n)(hW:slAt w vW W)(hB:slAd w vB Br)(hBl:Br.length≤5000)(hck:chk s n (clsOf s n) b W Br=0) :
 Calls Tryz.prog 66 #[.agg #[.string s,.int .i64 b,vW,vB]] w fun e w'=>∃P v0 v1 v2 vL hs,e=.returned (.pointer (some ⟨P,0,none⟩))∧LP w' w.heap.size P (bnd s n) (lvE s n (baseOf (Kl s n) b) Br) (wl s W n) (1 - 2 * baseOf (Kl s n) b) (lns s n (baseOf (Kl s n) b) W Br (Br.length+1)) v0 v1 v2 vL hs∧Fr [] w w':=by
 obtain⟨hWl,hw,hbr⟩:=chk_zero hend hs hb hck;have hn4:n≤400:=by have:=Dec.le_pos s n;have:=hend.1;omega
 have hE:=edges_ok hend hn Br hbr;have hcn:cn s n≤400:=by have:=bix_len s n;unfold cn;omega
 have hB4:Br.length+1≤400:=by
  have h1:=ei_ge hE (Br.length+1) (Nat.le_refl _);have h2:=hE.le (Br.length+1) (Nat.le_refl _);unfold eiOf at h1;omega
 have hW0:=hW;obtain⟨aW,cW,rfl,hW2⟩:=hW;obtain⟨gW,oW,rfl,hWr⟩:=hW2.resolve_left (by omega);obtain⟨aB,cB,rfl,_⟩:=id hB;rw[hWl]at hWr hW0 ⊢;obtain⟨bs,hbs⟩:∃bs,bs=baseOf (Kl s n) b:=⟨_,rfl⟩;have HB01:=hid (show bs=0∨bs=1 by rw[hbs];exact base_01 hb);obtain⟨wb,hwb⟩:∃wb,wb=w.alloc (.cells #[.string s,.int .i64 b,.slice (some ⟨gW,oW,none⟩) n cW,.slice aB Br.length cB] 64):=⟨_,rfl⟩;have HFb:=hid (show Fr [] w wb by rw[hwb];exact(Fr.refl [] w).alloc _);have HOB:=hid (show wb.heap[w.heap.size]?=some (.cells #[.string s,.int .i64 b,.slice (some ⟨gW,oW,none⟩) n cW,.slice aB Br.length cB] 64 (0,0)) by rw[hwb];exact obj_new w _);have HFL:=hid (fun(X:World) (hf:Fr [] w X)=>hF.fr hf);have h10:2<w.heap.size:=World.block_lt_of_cell? _ _ (hF.t4 0 (by decide)).1;have H163:=hid (fun X:World=>Cls.fn21_any s X (by omega));have H38:=hid (fun(X:World) (hf:Fr [] w X)=>of_any s b X (by omega) hb (hF.fr hf).t3 (hF.fr hf).t4 n hend hn (by omega) (Kl_in s n));have HBR:=hid hB;have HWR:=hid hWr;have HE:=hid hend;have HED:=hid hE;have HBS:=hid hbs;have HWl:=hid hWl
 have HWB:=hid (show ∀i,0≤nth W i∧nth W i≤1073741824 from fun i=>by
  by_cases hi:i<n
  ·exact wOk_at hw hi
  ·rw[nth_over (by omega)];decide)
 have hgW:gW<w.heap.size:=World.block_lt_of_cell? _ _ (hWr 0 hn);rw[←hbs]at H38;obtain⟨nB,hnB⟩:∃nB,nB=Br.length:=⟨_,rfl⟩;have HNB:=hid hnB;rw[←hnB]at hwb HOB hBl hB4 HBR ⊢;clear hW0 hW2 hWr hend hE hck hbr hw hWl hB hF hb hnB;rw[←hbs];clear hbs;go_enter Tryz.func66,Tryz.ntmps66;go_wp2_with fail;rw[←hwb];have hwbs:wb.heap.size=w.heap.size+1:=by rw[hwb];simp
 clear hwb;have HF1:=HFb;have HO1:=HOB;refine(H163.out wb).mono ?_;rintro e w2 ⟨n',v,hn',rfl,own,hb2,_⟩;obtain rfl:=Dec.ends_unique HE.out hn';obtain⟨gT,cT,rfl⟩:=owns_shape hn own;have hgT:=owns_at own;have HF2:=hid (HF1.out.trans (Fr.of_below (S:=[]) hb2));have HO2:=hid (obj_fr HO1.out (Fr.of_below (S:=[]) hb2) List.not_mem_nil)
 have HT:=hid (show rnAt w2 gT n (Rl s n) (Dec.pos s)from fun i hi=>by
  obtain⟨q0,q1,q2⟩:=Cls.cells_get (s:=s) (n:=n) (k:=i) hi
  refine⟨?_,?_,?_⟩
  ·rw[own.cellAt (i * 3) (by omega),q0,Rl_at s hi]
  ·rw[own.cellAt (i * 3+1) (by omega),q1]
  ·rw[own.cellAt (i * 3+2) (by omega),q2])
 have k0:=obj_cell HO2.out (i:=0) (v:=.string s) rfl;have k3:=obj_cell HO2.out (i:=3) (v:=.slice aB nB cB) rfl;have hl2:w.heap.size<w2.heap.size:=obj_lt HO2.out;have H164:=hid (concat_edges s Br aB cB w2 (by have h:=HBR.out.fr HF2.out;rw[HNB.out]at h;exact h) (by rw[←HNB.out];omega));rw[←HNB.out]at H164;clear own hb2 hn' H163;go_wp2_with fail;refine H164.out.mono ?_;rintro e w3 ⟨ge,ce,rfl,hce,hge,hE3,hf3⟩;have HF3:=hid (HF2.out.trans hf3);have HO3:=hid (obj_fr HO2.out hf3 List.not_mem_nil);have HT3:=hid (HT.out.fr hf3 List.not_mem_nil);have HE3:=hid hE3;have hge3:ge<w3.heap.size:=World.block_lt_of_cell? _ _ (hE3 0 (by omega));have hl23:=hf3.size;have H38b:=hid (H38.out w3 HF3.out);have k0:=obj_cell HO3.out (i:=0) (v:=.string s) rfl;have k1:=obj_cell HO3.out (i:=1) (v:=.int .i64 b) rfl;clear hE3 hf3 H164 k3 H38;go_wp2_with fail;refine H38b.out.mono ?_;rintro e w4 ⟨gL,rfl,hrL,hf4,hgL,hsL⟩;have HF4:=hid (HF3.out.trans hf4);have HO4:=hid (obj_fr HO3.out hf4 List.not_mem_nil);have HT4:=hid (HT3.out.fr hf4 List.not_mem_nil);have HE4:=hid (HE3.out.fr hf4 List.not_mem_nil);have hgLl:gL<w4.heap.size:=World.block_lt_of_cell? _ _ (hrL 0 hn);have hl34:=hf4.size
 have H165:=hid (ends_any gT n cT (Rl s n) (Dec.pos s) gL n ge (nB+2) ce bs s.size (edL s Br) (Kl s n) (levels (Rl s n) (Kl s n) bs) (edg (bix s n) (bnd s n) Br) w4 hn (by omega) (Kl_len s n) ((levels_len _ _ _ HB01.out).trans (Kl_len s n)) (by omega) (by rw[edL_len,HNB.out]) (by omega) (edL_rises HE.out HED.out) HT4.out hrL hsL HE4.out (by omega) (by omega)
  (fun x hx X hfX=>by
    have h:=Cls.fn22_any (nth (Rl s n) x) X (tab_frS (HFL.out w4 HF4.out).t3 hfX (fun hm=>by have:=List.mem_singleton.1 hm;omega)) (tab_frS (HFL.out w4 HF4.out).t4 hfX (fun hm=>by have:=List.mem_singleton.1 hm;omega))
    refine h.mono ?_
    rintro e w' ⟨rfl,hb⟩
    exact⟨by rw[Kl_at s hx,Rl_at s hx],Fr.of_below hb⟩)
  (fun x hx=>edL_has HE.out HED.out (x+1)) (by have h:=endAt_end (Kl s n) (edg (bix s n) (bnd s n) Br);rw[Kl_len]at h;exact h))
 clear k0 k1 H38b hrL hf4 hsL;go_wp2_with fail;refine H165.out.mono ?_;rintro e w5 ⟨rfl,hr5,hf5⟩;have HF5:=hid (show Fr [] w w5 from HF4.out.behind hf5 (fun k hk=>by rw[List.mem_singleton.1 hk];have:=HF3.out.size;omega));have HO5:=hid (obj_fr HO4.out hf5 (fun hm=>by have:=List.mem_singleton.1 hm;omega));have HT5:=hid (HT4.out.fr hf5 (fun hm=>by have:=List.mem_singleton.1 hm;omega));have HE5:=hid (HE4.out.fr hf5 (fun hm=>by have:=List.mem_singleton.1 hm;omega));have hl45:=hf5.size;obtain⟨LV,hLV⟩:∃LV,LV=mixL (Kl s n) (levels (Rl s n) (Kl s n) bs) bs (edg (bix s n) (bnd s n) Br) 0:=⟨_,rfl⟩;rw[←hLV]at hr5;have HLV:=hid hLV;have H166:=hid (signs_any s n b (.slice aB nB cB) gW oW cW gT cT gL n W LV (Rl s n) w5 (by omega) HE.out hn (HFL.out w5 HF5.out).t9 (HWR.out.fr HF5.out List.not_mem_nil) HWB.out HT5.out hr5);have k0:=obj_cell HO5.out (i:=0) (v:=.string s) rfl;have k1:=obj_cell HO5.out (i:=1) (v:=.int .i64 b) rfl;have k2:=obj_cell HO5.out (i:=2) (v:=.slice (some ⟨gW,oW,none⟩) n cW) rfl;have k3:=obj_cell HO5.out (i:=3) (v:=.slice aB nB cB) rfl;clear hr5 hf5 H165 hLV;go_wp2_with fail;refine H166.out.mono ?_;rintro e w6 ⟨vs,rfl,hvs,hf6⟩;obtain⟨gB,cB',gV,cV,gX,cX,rfl,hrB,hrV,hrX,hgB,hgV,hgX⟩:=hvs.out;have HF6:=hid (HF5.out.trans hf6);have HE6:=hid (HE5.out.fr hf6 List.not_mem_nil);have HRB:=hid hrB;have HRV:=hid hrV;have HRX:=hid hrX;have hl56:=hf6.size;clear hvs hrB hrV hrX hf6 H166 k0 k1 k2 k3;obtain⟨w7,hw7⟩:∃w7,w7=w6.alloc (.cells #[.slice (some ⟨gB,0,none⟩) (cn s n+1) cB',.slice (some ⟨gV,0,none⟩) (cn s n) cV,.slice (some ⟨gX,0,none⟩) (cn s n) cX] 146):=⟨_,rfl⟩;have HF67:=hid (show Fr [] w6 w7 by rw[hw7];exact(Fr.refl [] w6).alloc _);have HO7:=hid (show w7.heap[w6.heap.size]?=some (.cells #[.slice (some ⟨gB,0,none⟩) (cn s n+1) cB',.slice (some ⟨gV,0,none⟩) (cn s n) cV,.slice (some ⟨gX,0,none⟩) (cn s n) cX] 146 (0,0)) by rw[hw7];exact obj_new w6 _)
 have HLB:=hid (show ∀i,0≤nth LV i∧nth LV i≤1000 from fun i=>by
  by_cases hi:i<n
  ·rw[HLV.out,mixL_all (by rw[levels_len _ _ _ HB01.out,Kl_len];exact hi)]
   have:=elv_bound (Rl s n) (Kl s n) bs HB01.out (edg (bix s n) (bnd s n) Br) i
   omega
  ·rw[HLV.out,nth_over (by rw[mixL_len,levels_len _ _ _ HB01.out,Kl_len];omega)];decide)
 have HBG:=hid (cn_begs (s:=s) hn);have HBN:=hid (show cn s n+1=(bnd s n).length by have:=(bix_len s n).2.1;rw[bnd_length HE.out];unfold cn;omega)
 have H167:=hid (fun(X:World) (hf:Fr [] w7 X)=>lines_any (bnd s n) (lvs s LV n) (wl s W n) (edL s Br) s.size gB cB' (cn s n+1) gV (cn s n) cV gX cX ge ce (nB+1) X (rises_bnd HE.out) HBN.out (by omega) (by omega) (by omega) (by omega) (by omega)
  ((HRB.out.fr HF67.out List.not_mem_nil).fr hf List.not_mem_nil) ((HRV.out.fr HF67.out List.not_mem_nil).fr hf List.not_mem_nil) ((HRX.out.fr HF67.out List.not_mem_nil).fr hf List.not_mem_nil) ((HE6.out.fr HF67.out List.not_mem_nil).fr hf List.not_mem_nil)
  (lvs_in HLB.out) (fun k hk=>by
    have h:=wl_bound s W HWB.out n k (by rw[←HBG.out];exact hk)
    refine⟨h.1,Int.le_trans h.2 ?_⟩
    omega)
  (fun j hj=>by
    rw[edL_cidx HE.out HED.out (by rw[←HNB.out];omega),edL_cidx HE.out HED.out (by rw[←HNB.out];omega)]
    exact⟨Nat.le_of_lt (HED.out.mono j (j+1) (by omega) (by rw[←HNB.out];omega)),HED.out.le (j+1) (by rw[←HNB.out];omega)⟩))
 have HLS:=hid (show lnsP (bnd s n) (lvs s LV n) (wl s W n) (edL s Br) (nB+1)=lns s n bs W Br (nB+1) by
  rw[HNB.out]
  exact lines_same HE.out hn HED.out bs W LV (fun i hi=>by rw[HLV.out,mixL_all (by rw[levels_len _ _ _ HB01.out,Kl_len];exact hi)];rfl))
 have q0:=obj_cell HO7.out (i:=0) (v:=.slice (some ⟨gB,0,none⟩) (cn s n+1) cB') rfl;have q1:=obj_cell HO7.out (i:=1) (v:=.slice (some ⟨gV,0,none⟩) (cn s n) cV) rfl;have q2:=obj_cell HO7.out (i:=2) (v:=.slice (some ⟨gX,0,none⟩) (cn s n) cX) rfl;have hbI:(0:Int)≤bs∧bs≤1:=by have:=HB01.out;omega
 obtain⟨hb0,hb1⟩:=hbI;have hw1:IntKind.i64.wrap (2 * bs)=2 * bs:=by rw[IntKind.wrap_i64];omega
 have hw2:IntKind.i64.wrap (1 - 2 * bs)=1 - 2 * bs:=by rw[IntKind.wrap_i64];omega
 generalize hcn':cn s n=c at *;have HCN:=hid hcn';go_wp2_with fail;rw[←hw7];have HW7:=hid hw7;clear hw7 hcn';go_region_with (first | (go_at_call 114;refine(H167.out _ ?_).mono ?_;exact frz _ _ _ rfl rfl rfl rfl;rintro e w8 ⟨vL,hs8,rfl,own8,hl8,hf8⟩;obtain⟨aL,cL,rfl⟩:=owns_slice own8;have hf8':Fr [] w7 w8:=⟨hf8.os,hf8.tape,hf8.output,hf8.size,hf8.block⟩;have HF8:=hid hf8';have HO8:=hid own8;have HL8:=hid hl8;have r0:=hf8'.cell q0 List.not_mem_nil;have r1:=hf8'.cell q1 List.not_mem_nil;have r2:=hf8'.cell q2 List.not_mem_nil;clear hf8 hf8' own8 hl8))
 all_goals (
  have HF9:=hid (show Fr [] w7 (w8.alloc (.cells #[.slice (some ⟨gB,0,none⟩) (c+1) cB',.slice (some ⟨gV,0,none⟩) c cV,.slice (some ⟨gX,0,none⟩) c cX,.slice aL (nB+1) cL,.int .i64 (1 - 2 * bs)] 148))from HF8.out.alloc _)
  have HFE:=hid (HF6.out.trans (HF67.out.trans HF9.out))
  have HLP:=hid (show LP (w8.alloc (.cells #[.slice (some ⟨gB,0,none⟩) (c+1) cB',.slice (some ⟨gV,0,none⟩) c cV,.slice (some ⟨gX,0,none⟩) c cX,.slice aL (nB+1) cL,.int .i64 (1 - 2 * bs)] 148)) w.heap.size w8.heap.size (bnd s n) (lvE s n bs Br) (wl s W n) (1 - 2 * bs) (lns s n bs W Br (nB+1)) _ _ _ _ hs8 from by
   have z1:=HF5.out.size
   have z2:=HF67.out.size
   have z3:=HF8.out.size
   have hz:w.heap.size≤w7.heap.size:=by omega
   refine⟨obj_new w8 _,by omega,sl0_of HBN.out.symm (by omega) (((HRB.out.fr HF67.out List.not_mem_nil).fr HF9.out List.not_mem_nil)),sl0_of (by rw[lvE,lvs_len,←HBG.out]) (by omega) (by rw[lvE,←HLV.out];exact(HRV.out.fr HF67.out List.not_mem_nil).fr HF9.out List.not_mem_nil),sl0_of (by rw[wl_len,←HBG.out]) (by omega) ((HRX.out.fr HF67.out List.not_mem_nil).fr HF9.out List.not_mem_nil),?_,w8.heap.size,by simp,?_⟩
   ·rw[lns_len];exact owns_low (HO8.out.alloc _) hz
   ·have h:=HL8.out
    rw[HLS.out]at h
    intro j l hj
    obtain⟨vO,vX,a1,a2,a3,a4,a5,a6,a7,a8⟩:=h j l hj
    exact⟨vO,vX,a1,a2,a3,a4,owns_low (a5.alloc _) hz,owns_low (a6.alloc _) hz,a7,a8⟩)
  go_wp2
  go_ret
  exact⟨_,_,_,_,_,_,rfl,HLP.out,HFE.out⟩)
end Go.Proofs.YtnakejhohdbfdacGreatDoor
namespace Go.Proofs.YtnakejhohdbfdacGreatDoor
open Go.RowKit Lev Lay Bnd Go.Shelf
end Go.Proofs.YtnakejhohdbfdacGreatDoor
namespace Go.Proofs.YtnakejhohdbfdacGreatDoor
open Go.RowKit Lev Lay Bnd
end Go.Proofs.YtnakejhohdbfdacGreatDoor
namespace Go.Proofs.YtnakejhohdbfdacGreatDoor
open Go.RowKit Lev Lay Bnd Go.Shelf
attribute [local go_sem] Oper.semAt_some
structure VN (w:World)(B:Nat)(A:World):Prop where
 f:Fr [] w A
 n:B≤A.heap.size
 b:A.cell? ⟨w.heap.size+4,0,none⟩=some (.slice none 0 0)
theorem VN.below {w A A':World}{B:Nat}(h:VN w B A)(hB:w.heap.size+5≤B)(hb:Below B A A'):VN w B A' :=
 ⟨⟨hb.os.trans h.f.os,hb.tape.trans h.f.tape,hb.output.trans h.f.output,Nat.le_trans h.f.size hb.size,fun k hk hn=>(hb.block k (by omega)).trans (h.f.block k hk hn)⟩,Nat.le_trans h.n hb.size,(hb.cell (by show w.heap.size+4<B;omega)).trans h.b⟩
end Go.Proofs.YtnakejhohdbfdacGreatDoor
namespace Go.Proofs.YtnakejhohdbfdacGreatDoor
open Go.RowKit Lev Lay Bnd
end Go.Proofs.YtnakejhohdbfdacGreatDoor
namespace Go.Proofs.YtnakejhohdbfdacGreatDoor
open Go.RowKit Lev Lay
end Go.Proofs.YtnakejhohdbfdacGreatDoor
namespace Go.Proofs.YtnakejhohdbfdacGreatDoor
open Go.RowKit Lev Lay Bnd
end Go.Proofs.YtnakejhohdbfdacGreatDoor

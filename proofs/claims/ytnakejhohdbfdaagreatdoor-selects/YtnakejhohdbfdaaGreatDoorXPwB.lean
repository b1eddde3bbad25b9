import Derived.Test.YtnakejhohdbfdaaGreatDoorXPvJ
import Derived.Test.YtnakejhohdbfdaaGreatDoorXPvO
import Derived.Test.YtnakejhohdbfdaaGreatDoorXDecLaw
namespace Go.Proofs.YtnakejhohdbfdaaGreatDoor
open Go.RowKit Lev Lay Bnd
theorem chk_zero {s:ByteArray}{n:Nat}{b:Int}{W Br:List Int}(h:Dec.Ends s n)(hs:s.size≤400)(hb:b=0∨b=1∨b=2)(hc:chk s n (clsOf s n) b W Br=0) :
 W.length=n∧Lay.wOk W n=true∧Lay.brTo (bnd s n) s.size Br Br.length=true:=by
 rw[chk_in h hs hb]at hc;cases h1:okW W n
 ·rw[if_pos h1]at hc;cases hc
 ·cases h2:Lay.brTo (bnd s n) s.size Br Br.length
  ·rw[if_neg (by rw[h1];decide),if_pos h2]at hc;cases hc
  ·unfold okW at h1
   rw[Bool.and_eq_true]at h1;exact⟨of_decide_eq_true h1.1,h1.2,rfl⟩
def lvE (s:ByteArray)(n:Nat)(bs:Int)(Br:List Int):List Int:=lvs s (mixL (Kl s n) (levels (Rl s n) (Kl s n) bs) bs (edg (bix s n) (bnd s n) Br) 0) n
structure LP (w:World)(B P:Nat)(Bd V X:List Int)(r:Int)(Ls:List Ln)(v0 v1 v2 vL:Value)(hs:List Value):Prop where
 o:w.heap[P]?=some (.cells #[v0,v1,v2,vL,.int .i64 r] 166 (0,0))
 le:B≤P
 b:sl0 w B v0 Bd
 v:sl0 w B v1 V
 x:sl0 w B v2 X
 l:w.ownsRow B 51 4 vL Ls.length hs
 n:∃U,U≤w.heap.size∧lnsAt w B U hs Ls
theorem LP.fr {S:List Nat}{w w':World}{B P:Nat}{Bd V X:List Int}{r:Int}{Ls:List Ln}{v0 v1 v2 vL:Value}{hs:List Value}(h:LP w B P Bd V X r Ls v0 v1 v2 vL hs)(hf:Fr S w w')(hS:∀k∈S,k<B):LP w' B P Bd V X r Ls v0 v1 v2 vL hs:=by
 obtain⟨U,hU,hn⟩:=h.n;exact⟨obj_fr h.o hf (fun hm=>by have:=hS P hm;have:=h.le;omega),h.le,h.b.fr hf hS,h.v.fr hf hS,h.x.fr hf hS,owns_frB h.l hf hS,U,Nat.le_trans hU hf.size,hn.fr (fun _ _ _ _ _ _ h=>owns_frB h hf hS)⟩
theorem ei_ge {s:ByteArray}{n:Nat}{Br:List Int}(E:Edges s n Br):∀k,k≤Br.length+1→k≤eiOf s n Br k
 | 0,_=>Nat.zero_le _
 | k+1,h=>by
   have h1:=ei_ge E k (by omega);have h2:=E.mono k (k+1) (by omega) h;unfold eiOf at *;omega
theorem Kl_at (s:ByteArray){n i:Nat}(h:i<n):nth (Kl s n) i=Tabs.look Tabs.classTab (Dec.rune s i):=by simp[nth,Kl,h]
theorem tab_frS {S:List Nat}{w w':World}{g:Nat}{l:List (Int × Int × Int)}(h:Cls.TabAt w g l)(hf:Fr S w w')(hg:g ∉ S):Cls.TabAt w' g l:=fun i hi =>
 ⟨hf.cell (h i hi).1 hg,hf.cell (h i hi).2.1 hg,hf.cell (h i hi).2.2 hg⟩
theorem sl0_of {w:World}{B g c n:Nat}{l:List Int}(hl:l.length=n)(hg:B≤g)(hr:rowAt w g n l):sl0 w B (.slice (some ⟨g,0,none⟩) n c) l:=by
 subst hl;exact⟨_,_,rfl,.inr ⟨g,rfl,hg,hr⟩⟩
theorem raise_len (K C:List Int)(base:Int)(L:List Int):∀k,(raiseTo K C base k L).2.length=L.length
 | 0=>rfl
 | k+1=>by
   have ih:=raise_len K C base L k;rw[raiseTo];split <;> rw[List.length_set,ih]
theorem levels_len (R K:List Int)(base:Int)(hb:base=0∨base=1):(levels R K base).length=K.length:=by
 unfold levels;rw[raise_len];exact(emb_inv K base hb K.length (Nat.le_refl _)).len.1
theorem concat_edges (s:ByteArray)(Br:List Int)(aB:Option Addr)(cB:Nat)(w:World)(hB:slAd w (.slice aB Br.length cB) Br)(hl:Br.length≤1000) :
 Calls Tryz.prog 205 #[.slice (some ⟨w.heap.size+1+1,0,none⟩) 3 3] (((w.alloc (.cells #[.int .i64 0] 3)).alloc (.cells #[.int .i64 s.size] 3)).alloc (.cells #[.slice (some ⟨w.heap.size,0,none⟩) 1 1,.slice aB Br.length cB,.slice (some ⟨w.heap.size+1,0,none⟩) 1 1] 22))
  fun e w'=>∃g c,e=.returned (.slice (some ⟨g,0,none⟩) (Br.length+2) c)∧Br.length+2≤c∧w.heap.size≤g∧rowAt w' g (Br.length+2) (edL s Br)∧Fr [] w w':=by
 obtain⟨wc,hwc⟩:∃wc,wc=((w.alloc (.cells #[.int .i64 0] 3)).alloc (.cells #[.int .i64 s.size] 3)).alloc (.cells #[.slice (some ⟨w.heap.size,0,none⟩) 1 1,.slice aB Br.length cB,.slice (some ⟨w.heap.size+1,0,none⟩) 1 1] 22):=⟨_,rfl⟩;rw[←hwc];have hf:Fr [] w wc:=by rw[hwc];exact(((Fr.refl [] w).alloc _).alloc _).alloc _
 have hsz:wc.heap.size=w.heap.size+3:=by rw[hwc];simp
 have k0:wc.heap[w.heap.size]?=some (.cells #[.int .i64 0] 3 (0,0)):=by
  rw[hwc];exact obj_fr (obj_new w _) (((Fr.refl [] _).alloc _).alloc _) List.not_mem_nil
 have k1:wc.heap[w.heap.size+1]?=some (.cells #[.int .i64 s.size] 3 (0,0)):=by
  have h:=obj_fr (obj_new (w.alloc (.cells #[.int .i64 0] 3)) (.cells #[.int .i64 s.size] 3)) ((Fr.refl [] _).alloc (.cells #[.slice (some ⟨w.heap.size,0,none⟩) 1 1,.slice aB Br.length cB,.slice (some ⟨w.heap.size+1,0,none⟩) 1 1] 22)) List.not_mem_nil;rw[←hwc]at h;simpa using h
 have k2:wc.heap[w.heap.size+1+1]?=some (.cells #[.slice (some ⟨w.heap.size,0,none⟩) 1 1,.slice aB Br.length cB,.slice (some ⟨w.heap.size+1,0,none⟩) 1 1] 22 (0,0)):=by
  have h:=obj_new ((w.alloc (.cells #[.int .i64 0] 3)).alloc (.cells #[.int .i64 s.size] 3)) (.cells #[.slice (some ⟨w.heap.size,0,none⟩) 1 1,.slice aB Br.length cB,.slice (some ⟨w.heap.size+1,0,none⟩) 1 1] 22);rw[←hwc]at h;simpa using h
 clear hwc;obtain⟨L,hL⟩:∃L:Nat→List Int,L=fun i=>if i=0 then [0]else if i=1 then Br else [((s.size:Nat):Int)]:=⟨_,rfl⟩
 obtain⟨H,hH⟩:∃H:Nat→Value,H=fun i=>if i=0 then .slice (some ⟨w.heap.size,0,none⟩) 1 1 else if i=1 then .slice aB Br.length cB else .slice (some ⟨w.heap.size+1,0,none⟩) 1 1:=⟨_,rfl⟩
 have hcat:catTo L 3=edL s Br:=cat_edL s Br L (by rw[hL];rfl) (by rw[hL];rfl) (by rw[hL];rfl);have h:=concat_any L H (w.heap.size+1+1) 3 3 wc (by omega)
  (fun i hi=>by
    rcases(show i=0∨i=1∨i=2 by omega)with rfl | rfl | rfl
    ·rw[hH];exact obj_cell k2 (i:=0) rfl
    ·rw[hH];exact obj_cell k2 (i:=1) rfl
    ·rw[hH];exact obj_cell k2 (i:=2) rfl)
  (fun i hi=>by
    rcases(show i=0∨i=1∨i=2 by omega)with rfl | rfl | rfl
    ·rw[hH,hL]
     exact⟨_,_,rfl,.inr ⟨_,rfl,fun j hj=>by
      obtain rfl:j=0:=Nat.lt_one_iff.1 hj
      exact obj_cell k0 (i:=0) rfl⟩⟩
    ·rw[hH,hL];exact hB.fr hf
    ·rw[hH,hL]
     exact⟨_,_,rfl,.inr ⟨_,rfl,fun j hj=>by
      obtain rfl:j=0:=Nat.lt_one_iff.1 hj
      exact obj_cell k1 (i:=0) rfl⟩⟩)
  (by rw[hcat,edL_len];omega) (by rw[hcat,edL_len];omega)
 rw[hcat,edL_len]at h;refine h.mono ?_;rintro e w' ⟨g,c,rfl,own,hf2⟩;refine⟨g,c,rfl,owns_cap' own,by have:=(owns_at own).1;omega,fun j hj=>?_,hf.trans hf2⟩;rw[own.cellAt j (by omega),ints64_at (by rw[edL_len];exact hj)]
theorem sl0.low {w:World}{B B':Nat}{v:Value}{l:List Int}(h:sl0 w B v l)(hb:B'≤B):sl0 w B' v l:=by
 obtain⟨a,c,rfl,h0 | ⟨g,h1,h2,h3⟩⟩:=h
 ·exact⟨a,c,rfl,.inl h0⟩
 ·exact⟨a,c,rfl,.inr ⟨g,h1,Nat.le_trans hb h2,h3⟩⟩
theorem LP.low {w:World}{B B' P:Nat}{Bd V X:List Int}{r:Int}{Ls:List Ln}{v0 v1 v2 vL:Value}{hs:List Value}(h:LP w B P Bd V X r Ls v0 v1 v2 vL hs)(hb:B'≤B):LP w B' P Bd V X r Ls v0 v1 v2 vL hs:=by
 obtain⟨U,hU,hn⟩:=h.n;refine⟨h.o,Nat.le_trans hb h.le,h.b.low hb,h.v.low hb,h.x.low hb,owns_low h.l hb,U,hU,fun j l hj=>?_⟩;obtain⟨vO,vX,a1,a2,a3,a4,a5,a6,a7,a8⟩:=hn j l hj;exact⟨vO,vX,a1,a2,a3,a4,owns_low a5 hb,owns_low a6 hb,a7,a8⟩
set_option maxRecDepth 10000 in
theorem newP_of (s:ByteArray)(b:Int)(vW vB:Value)(W Br:List Int)(n:Nat)(w:World)(hs:s.size≤400)(hb:b=0∨b=1∨b=2)(hF:Floor w)(hend:Dec.Ends s n)(hW:slAt w vW W)(hB:slAd w vB Br)(hBl:Br.length≤5000)(hck:chk s n (clsOf s n) b W Br=0)(Bd V X:List Int)(r:Int)(Ls:List Ln)
 (hl:∀Y,Fr [] w Y→Calls Tryz.prog 163 #[.agg #[.string s,.int .i64 b,vW,vB]] Y fun e w'=>∃P v0 v1 v2 vL hs,e=.returned (.pointer (some ⟨P,0,none⟩))∧LP w' Y.heap.size P Bd V X r Ls v0 v1 v2 vL hs∧Fr [] Y w') :
 Calls Tryz.prog 94 #[.agg #[.string s,.int .i64 b,vW,vB]] w fun e w'=>∃P v0 v1 v2 vL hs,e=.returned (.tuple #[.pointer (some ⟨P,0,none⟩),.nilIface])∧LP w' w.heap.size P Bd V X r Ls v0 v1 v2 vL hs∧Fr [] w w':=by
 obtain⟨hWl,_⟩:=chk_zero hend hs hb hck;have hn4:n≤400:=by have:=Dec.le_pos s n;have:=hend.1;omega
 have hW0:=hW;obtain⟨aW,cW,rfl,_⟩:=hW;obtain⟨aB,cB,rfl,_⟩:=id hB;obtain⟨wb,hwb⟩:∃wb,wb=w.alloc (.cells #[.string s,.int .i64 b,.slice aW W.length cW,.slice aB Br.length cB] 35):=⟨_,rfl⟩;have HFb:=hid (show Fr [] w wb by rw[hwb];exact(Fr.refl [] w).alloc _);have HOB:=hid (show wb.heap[w.heap.size]?=some (.cells #[.string s,.int .i64 b,.slice aW W.length cW,.slice aB Br.length cB] 35 (0,0)) by rw[hwb];exact obj_new w _);have H162:=hid (ckP_rest s b _ _ W Br n wb hs hb (hF.fr HFb.out) hend (hW0.fr HFb.out) (by omega) (hB.at.fr HFb.out) hBl);have HCK:=hid hck;have H163:=hid hl;generalize W.length=nW at *;generalize Br.length=nB at *;clear hW0 hend hck hB hF hb hl hWl;go_enter Tryz.func94,Tryz.ntmps94;go_wp2_with fail;rw[←hwb];clear hwb;refine H162.out.mono ?_;rintro e w1 ⟨v,rfl,hv,hf1⟩;obtain⟨rfl,_⟩:v=.nilIface∧True:=by
  rcases hv with h | h
  ·exact⟨h.1,trivial⟩
  ·exact absurd HCK.out h.1
 have HF1:=hid (HFb.out.trans hf1);have HO1:=hid (obj_fr HOB.out hf1 List.not_mem_nil);have k0:=obj_cell HO1.out (i:=0) (v:=.string s) rfl;have k1:=obj_cell HO1.out (i:=1) (v:=.int .i64 b) rfl;have k2:=obj_cell HO1.out (i:=2) (v:=.slice aW nW cW) rfl;have k3:=obj_cell HO1.out (i:=3) (v:=.slice aB nB cB) rfl;have H163b:=hid (H163.out w1 HF1.out);clear hv hf1 H162 H163;go_wp2_with fail;refine H163b.out.mono ?_;rintro e w2 ⟨P,v0,v1,v2,vL,hs2,rfl,hL,hf2⟩;have HL:=hid (hL.low HF1.out.size);have HF2:=hid (HF1.out.trans hf2);clear hL hf2 H163b;go_wp2;go_ret2;exact⟨P,v0,v1,v2,vL,hs2,rfl,HL.out,HF2.out⟩
set_option maxRecDepth 10000 in
set_option maxHeartbeats 4000000 in
theorem layP_pos (s:ByteArray)(b:Int)(vW vB:Value)(W Br:List Int)(n:Nat)(w:World)(hs:s.size≤400)(hb:b=0∨b=1∨b=2)(hF:Floor w)(hend:Dec.Ends s n)(hn:0<n)(hW:slAt w vW W)(hB:slAd w vB Br)(hBl:Br.length≤5000)(hck:chk s n (clsOf s n) b W Br=0) :
 Calls Tryz.prog 163 #[.agg #[.string s,.int .i64 b,vW,vB]] w fun e w'=>∃P v0 v1 v2 vL hs,e=.returned (.pointer (some ⟨P,0,none⟩))∧LP w' w.heap.size P (bnd s n) (lvE s n (baseOf (Kl s n) b) Br) (wl s W n) (1 - 2 * baseOf (Kl s n) b) (lns s n (baseOf (Kl s n) b) W Br (Br.length+1)) v0 v1 v2 vL hs∧Fr [] w w':=by
 obtain⟨hWl,hw,hbr⟩:=chk_zero hend hs hb hck;have hn4:n≤400:=by have:=Dec.le_pos s n;have:=hend.1;omega
 have hE:=edges_ok hend hn Br hbr;have hcn:cn s n≤400:=by have:=bix_len s n;unfold cn;omega
 have hB4:Br.length+1≤400:=by
  have h1:=ei_ge hE (Br.length+1) (Nat.le_refl _);have h2:=hE.le (Br.length+1) (Nat.le_refl _);unfold eiOf at h1;omega
 have hW0:=hW;obtain⟨aW,cW,rfl,hW2⟩:=hW;obtain⟨gW,oW,rfl,hWr⟩:=hW2.resolve_left (by omega);obtain⟨aB,cB,rfl,_⟩:=id hB;rw[hWl]at hWr hW0 ⊢;obtain⟨bs,hbs⟩:∃bs,bs=baseOf (Kl s n) b:=⟨_,rfl⟩;have HB01:=hid (show bs=0∨bs=1 by rw[hbs];exact base_01 hb);obtain⟨wb,hwb⟩:∃wb,wb=w.alloc (.cells #[.string s,.int .i64 b,.slice (some ⟨gW,oW,none⟩) n cW,.slice aB Br.length cB] 35):=⟨_,rfl⟩;have HFb:=hid (show Fr [] w wb by rw[hwb];exact(Fr.refl [] w).alloc _);have HOB:=hid (show wb.heap[w.heap.size]?=some (.cells #[.string s,.int .i64 b,.slice (some ⟨gW,oW,none⟩) n cW,.slice aB Br.length cB] 35 (0,0)) by rw[hwb];exact obj_new w _);have HFL:=hid (fun(X:World) (hf:Fr [] w X)=>hF.fr hf);have h10:4<w.heap.size:=World.block_lt_of_cell? _ _ (hF.t4 0 (by decide)).1;have H163:=hid (fun X:World=>Cls.fn21_any s X (by omega));have H38:=hid (fun(X:World) (hf:Fr [] w X)=>of_any s b X (by omega) hb (hF.fr hf).t3 (hF.fr hf).t4 n hend hn (by omega) (Kl_in s n));have HBR:=hid hB;have HWR:=hid hWr;have HE:=hid hend;have HED:=hid hE;have HBS:=hid hbs;have HWl:=hid hWl
 have HWB:=hid (show ∀i,0≤nth W i∧nth W i≤1073741824 from fun i=>by
  by_cases hi:i<n
  ·exact wOk_at hw hi
  ·rw[nth_over (by omega)];decide)
 have hgW:gW<w.heap.size:=World.block_lt_of_cell? _ _ (hWr 0 hn);rw[←hbs]at H38;obtain⟨nB,hnB⟩:∃nB,nB=Br.length:=⟨_,rfl⟩;have HNB:=hid hnB;rw[←hnB]at hwb HOB hBl hB4 HBR ⊢;clear hW0 hW2 hWr hend hE hck hbr hw hWl hB hF hb hnB;rw[←hbs];clear hbs;go_enter Tryz.func163,Tryz.ntmps163;go_wp2_with fail;rw[←hwb];have hwbs:wb.heap.size=w.heap.size+1:=by rw[hwb];simp
 clear hwb;have HF1:=HFb;have HO1:=HOB;refine(H163.out wb).mono ?_;rintro e w2 ⟨n',v,hn',rfl,own,hb2,_⟩;obtain rfl:=Dec.ends_unique HE.out hn';obtain⟨gT,cT,rfl⟩:=owns_shape hn own;have hgT:=owns_at own;have HF2:=hid (HF1.out.trans (Fr.of_below (S:=[]) hb2));have HO2:=hid (obj_fr HO1.out (Fr.of_below (S:=[]) hb2) List.not_mem_nil)
 have HT:=hid (show rnAt w2 gT n (Rl s n) (Dec.pos s)from fun i hi=>by
  obtain⟨q0,q1,q2⟩:=Cls.cells_get (s:=s) (n:=n) (k:=i) hi
  refine⟨?_,?_,?_⟩
  ·rw[own.cellAt (i * 3) (by omega),q0,Rl_at s hi]
  ·rw[own.cellAt (i * 3+1) (by omega),q1]
  ·rw[own.cellAt (i * 3+2) (by omega),q2])
 have k0:=obj_cell HO2.out (i:=0) (v:=.string s) rfl;have k3:=obj_cell HO2.out (i:=3) (v:=.slice aB nB cB) rfl;have hl2:w.heap.size<w2.heap.size:=obj_lt HO2.out;have H164:=hid (concat_edges s Br aB cB w2 (by have h:=HBR.out.fr HF2.out;rw[HNB.out]at h;exact h) (by rw[←HNB.out];omega));rw[←HNB.out]at H164;clear own hb2 hn' H163;go_wp2_with fail;refine H164.out.mono ?_;rintro e w3 ⟨ge,ce,rfl,hce,hge,hE3,hf3⟩;have HF3:=hid (HF2.out.trans hf3);have HO3:=hid (obj_fr HO2.out hf3 List.not_mem_nil);have HT3:=hid (HT.out.fr hf3 List.not_mem_nil);have HE3:=hid hE3;have hge3:ge<w3.heap.size:=World.block_lt_of_cell? _ _ (hE3 0 (by omega));have hl23:=hf3.size;have H38b:=hid (H38.out w3 HF3.out);have k0:=obj_cell HO3.out (i:=0) (v:=.string s) rfl;have k1:=obj_cell HO3.out (i:=1) (v:=.int .i64 b) rfl;clear hE3 hf3 H164 k3 H38;go_wp2_with fail;refine H38b.out.mono ?_;rintro e w4 ⟨gL,rfl,hrL,hf4,hgL,hsL⟩;have HF4:=hid (HF3.out.trans hf4);have HO4:=hid (obj_fr HO3.out hf4 List.not_mem_nil);have HT4:=hid (HT3.out.fr hf4 List.not_mem_nil);have HE4:=hid (HE3.out.fr hf4 List.not_mem_nil);have hgLl:gL<w4.heap.size:=World.block_lt_of_cell? _ _ (hrL 0 hn);have hl34:=hf4.size
 have H165:=hid (ends_any gT n cT (Rl s n) (Dec.pos s) gL n ge (nB+2) ce bs s.size (edL s Br) (Kl s n) (levels (Rl s n) (Kl s n) bs) (edg (bix s n) (bnd s n) Br) w4 hn (by omega) (Kl_len s n) ((levels_len _ _ _ HB01.out).trans (Kl_len s n)) (by omega) (by rw[edL_len,HNB.out]) (by omega) (edL_rises HE.out HED.out) HT4.out hrL hsL HE4.out (by omega) (by omega)
  (fun x hx X hfX=>by
    have h:=Cls.fn22_any (nth (Rl s n) x) X (tab_frS (HFL.out w4 HF4.out).t3 hfX (fun hm=>by have:=List.mem_singleton.1 hm;omega)) (tab_frS (HFL.out w4 HF4.out).t4 hfX (fun hm=>by have:=List.mem_singleton.1 hm;omega))
    refine h.mono ?_
    rintro e w' ⟨rfl,hb⟩
    exact⟨by rw[Kl_at s hx,Rl_at s hx],Fr.of_below hb⟩)
  (fun x hx=>edL_has HE.out HED.out (x+1)) (by have h:=endAt_end (Kl s n) (edg (bix s n) (bnd s n) Br);rw[Kl_len]at h;exact h))
 clear k0 k1 H38b hrL hf4 hsL;go_wp2_with fail;refine H165.out.mono ?_;rintro e w5 ⟨rfl,hr5,hf5⟩;have HF5:=hid (show Fr [] w w5 from HF4.out.behind hf5 (fun k hk=>by rw[List.mem_singleton.1 hk];have:=HF3.out.size;omega));have HO5:=hid (obj_fr HO4.out hf5 (fun hm=>by have:=List.mem_singleton.1 hm;omega));have HT5:=hid (HT4.out.fr hf5 (fun hm=>by have:=List.mem_singleton.1 hm;omega));have HE5:=hid (HE4.out.fr hf5 (fun hm=>by have:=List.mem_singleton.1 hm;omega));have hl45:=hf5.size;obtain⟨LV,hLV⟩:∃LV,LV=mixL (Kl s n) (levels (Rl s n) (Kl s n) bs) bs (edg (bix s n) (bnd s n) Br) 0:=⟨_,rfl⟩;rw[←hLV]at hr5;have HLV:=hid hLV;have H166:=hid (signs_any s n b (.slice aB nB cB) gW oW cW gT cT gL n W LV (Rl s n) w5 (by omega) HE.out hn (HFL.out w5 HF5.out).t9 (HWR.out.fr HF5.out List.not_mem_nil) HWB.out HT5.out hr5);have k0:=obj_cell HO5.out (i:=0) (v:=.string s) rfl;have k1:=obj_cell HO5.out (i:=1) (v:=.int .i64 b) rfl;have k2:=obj_cell HO5.out (i:=2) (v:=.slice (some ⟨gW,oW,none⟩) n cW) rfl;have k3:=obj_cell HO5.out (i:=3) (v:=.slice aB nB cB) rfl;clear hr5 hf5 H165 hLV;go_wp2_with fail;refine H166.out.mono ?_;rintro e w6 ⟨vs,rfl,hvs,hf6⟩;obtain⟨gB,cB',gV,cV,gX,cX,rfl,hrB,hrV,hrX,hgB,hgV,hgX⟩:=hvs.out;have HF6:=hid (HF5.out.trans hf6);have HE6:=hid (HE5.out.fr hf6 List.not_mem_nil);have HRB:=hid hrB;have HRV:=hid hrV;have HRX:=hid hrX;have hl56:=hf6.size;clear hvs hrB hrV hrX hf6 H166 k0 k1 k2 k3;obtain⟨w7,hw7⟩:∃w7,w7=w6.alloc (.cells #[.slice (some ⟨gB,0,none⟩) (cn s n+1) cB',.slice (some ⟨gV,0,none⟩) (cn s n) cV,.slice (some ⟨gX,0,none⟩) (cn s n) cX] 163):=⟨_,rfl⟩;have HF67:=hid (show Fr [] w6 w7 by rw[hw7];exact(Fr.refl [] w6).alloc _);have HO7:=hid (show w7.heap[w6.heap.size]?=some (.cells #[.slice (some ⟨gB,0,none⟩) (cn s n+1) cB',.slice (some ⟨gV,0,none⟩) (cn s n) cV,.slice (some ⟨gX,0,none⟩) (cn s n) cX] 163 (0,0)) by rw[hw7];exact obj_new w6 _)
 have HLB:=hid (show ∀i,0≤nth LV i∧nth LV i≤1000 from fun i=>by
  by_cases hi:i<n
  ·rw[HLV.out,mixL_all (by rw[levels_len _ _ _ HB01.out,Kl_len];exact hi)]
   have:=elv_bound (Rl s n) (Kl s n) bs HB01.out (edg (bix s n) (bnd s n) Br) i
   omega
  ·rw[HLV.out,nth_over (by rw[mixL_len,levels_len _ _ _ HB01.out,Kl_len];omega)];decide)
 have HBG:=hid (cn_begs (s:=s) hn);have HBN:=hid (show cn s n+1=(bnd s n).length by have:=(bix_len s n).2.1;rw[bnd_length HE.out];unfold cn;omega)
 have H167:=hid (fun(X:World) (hf:Fr [] w7 X)=>lines_any (bnd s n) (lvs s LV n) (wl s W n) (edL s Br) s.size gB cB' (cn s n+1) gV (cn s n) cV gX cX ge ce (nB+1) X (rises_bnd HE.out) HBN.out (by omega) (by omega) (by omega) (by omega) (by omega)
  ((HRB.out.fr HF67.out List.not_mem_nil).fr hf List.not_mem_nil) ((HRV.out.fr HF67.out List.not_mem_nil).fr hf List.not_mem_nil) ((HRX.out.fr HF67.out List.not_mem_nil).fr hf List.not_mem_nil) ((HE6.out.fr HF67.out List.not_mem_nil).fr hf List.not_mem_nil)
  (lvs_in HLB.out) (fun k hk=>by
    have h:=wl_bound s W HWB.out n k (by rw[←HBG.out];exact hk)
    refine⟨h.1,Int.le_trans h.2 ?_⟩
    omega)
  (fun j hj=>by
    rw[edL_cidx HE.out HED.out (by rw[←HNB.out];omega),edL_cidx HE.out HED.out (by rw[←HNB.out];omega)]
    exact⟨Nat.le_of_lt (HED.out.mono j (j+1) (by omega) (by rw[←HNB.out];omega)),HED.out.le (j+1) (by rw[←HNB.out];omega)⟩))
 have HLS:=hid (show lnsP (bnd s n) (lvs s LV n) (wl s W n) (edL s Br) (nB+1)=lns s n bs W Br (nB+1) by
  rw[HNB.out]
  exact lines_same HE.out hn HED.out bs W LV (fun i hi=>by rw[HLV.out,mixL_all (by rw[levels_len _ _ _ HB01.out,Kl_len];exact hi)];rfl))
 have q0:=obj_cell HO7.out (i:=0) (v:=.slice (some ⟨gB,0,none⟩) (cn s n+1) cB') rfl;have q1:=obj_cell HO7.out (i:=1) (v:=.slice (some ⟨gV,0,none⟩) (cn s n) cV) rfl;have q2:=obj_cell HO7.out (i:=2) (v:=.slice (some ⟨gX,0,none⟩) (cn s n) cX) rfl;have hbI:(0:Int)≤bs∧bs≤1:=by have:=HB01.out;omega
 obtain⟨hb0,hb1⟩:=hbI;have hw1:IntKind.i64.wrap (2 * bs)=2 * bs:=by rw[IntKind.wrap_i64];omega
 have hw2:IntKind.i64.wrap (1 - 2 * bs)=1 - 2 * bs:=by rw[IntKind.wrap_i64];omega
 generalize hcn':cn s n=c at *;have HCN:=hid hcn';go_wp2_with fail;rw[←hw7];have HW7:=hid hw7;clear hw7 hcn';go_region_with (first | (go_at_call 208;refine(H167.out _ ?_).mono ?_;exact frz _ _ _ rfl rfl rfl rfl;rintro e w8 ⟨vL,hs8,rfl,own8,hl8,hf8⟩;obtain⟨aL,cL,rfl⟩:=owns_slice own8;have hf8':Fr [] w7 w8:=⟨hf8.os,hf8.tape,hf8.output,hf8.size,hf8.block⟩;have HF8:=hid hf8';have HO8:=hid own8;have HL8:=hid hl8;have r0:=hf8'.cell q0 List.not_mem_nil;have r1:=hf8'.cell q1 List.not_mem_nil;have r2:=hf8'.cell q2 List.not_mem_nil;clear hf8 hf8' own8 hl8))
 all_goals (
  have HF9:=hid (show Fr [] w7 (w8.alloc (.cells #[.slice (some ⟨gB,0,none⟩) (c+1) cB',.slice (some ⟨gV,0,none⟩) c cV,.slice (some ⟨gX,0,none⟩) c cX,.slice aL (nB+1) cL,.int .i64 (1 - 2 * bs)] 166))from HF8.out.alloc _)
  have HFE:=hid (HF6.out.trans (HF67.out.trans HF9.out))
  have HLP:=hid (show LP (w8.alloc (.cells #[.slice (some ⟨gB,0,none⟩) (c+1) cB',.slice (some ⟨gV,0,none⟩) c cV,.slice (some ⟨gX,0,none⟩) c cX,.slice aL (nB+1) cL,.int .i64 (1 - 2 * bs)] 166)) w.heap.size w8.heap.size (bnd s n) (lvE s n bs Br) (wl s W n) (1 - 2 * bs) (lns s n bs W Br (nB+1)) _ _ _ _ hs8 from by
   have z1:=HF5.out.size
   have z2:=HF67.out.size
   have z3:=HF8.out.size
   have hz:w.heap.size≤w7.heap.size:=by omega
   refine⟨obj_new w8 _,by omega,sl0_of HBN.out.symm (by omega) (((HRB.out.fr HF67.out List.not_mem_nil).fr HF9.out List.not_mem_nil)),sl0_of (by rw[lvE,lvs_len,←HBG.out]) (by omega) (by rw[lvE,←HLV.out];exact(HRV.out.fr HF67.out List.not_mem_nil).fr HF9.out List.not_mem_nil),sl0_of (by rw[wl_len,←HBG.out]) (by omega) ((HRX.out.fr HF67.out List.not_mem_nil).fr HF9.out List.not_mem_nil),?_,w8.heap.size,by simp,?_⟩
   ·rw[lns_len];exact owns_low (HO8.out.alloc _) hz
   ·have h:=HL8.out
    rw[HLS.out]at h
    intro j l hj
    obtain⟨vO,vX,a1,a2,a3,a4,a5,a6,a7,a8⟩:=h j l hj
    exact⟨vO,vX,a1,a2,a3,a4,owns_low (a5.alloc _) hz,owns_low (a6.alloc _) hz,a7,a8⟩)
  go_wp2
  go_ret
  exact⟨_,_,_,_,_,_,rfl,HLP.out,HFE.out⟩)
theorem newP_pos (s:ByteArray)(b:Int)(vW vB:Value)(W Br:List Int)(n:Nat)(w:World)(hs:s.size≤400)(hb:b=0∨b=1∨b=2)(hF:Floor w)(hend:Dec.Ends s n)(hn:0<n)(hW:slAt w vW W)(hB:slAd w vB Br)(hBl:Br.length≤5000)(hck:chk s n (clsOf s n) b W Br=0) :
 Calls Tryz.prog 94 #[.agg #[.string s,.int .i64 b,vW,vB]] w fun e w'=>∃P v0 v1 v2 vL hs,e=.returned (.tuple #[.pointer (some ⟨P,0,none⟩),.nilIface])∧LP w' w.heap.size P (bnd s n) (lvE s n (baseOf (Kl s n) b) Br) (wl s W n) (1 - 2 * baseOf (Kl s n) b) (lns s n (baseOf (Kl s n) b) W Br (Br.length+1)) v0 v1 v2 vL hs∧Fr [] w w' :=
 newP_of s b vW vB W Br n w hs hb hF hend hW hB hBl hck _ _ _ _ _ (fun Y hf=>layP_pos s b vW vB W Br n Y hs hb (hF.fr hf) hend hn (hW.fr hf) (hB.fr hf) hBl hck)
set_option maxRecDepth 10000 in
theorem newP_bad (vs:Array Value)(s:ByteArray)(b x:Int)(aW aB:Option Addr)(nW cW nB cB:Nat)(w:World)(hvs:vs=#[.string s,.int .i64 b,.slice aW nW cW,.slice aB nB cB])
 (hc:∀w',Fr [] w w'→Calls Tryz.prog 162 #[.agg vs] w' fun e w2=>∃v,e=.returned v∧faultAt w2 v x∧Fr [] w' w2) :
 Calls Tryz.prog 94 #[.agg vs] w fun e w'=>∃P,e=.returned (.tuple #[.pointer none,.iface 126 (.pointer (some ⟨P,0,none⟩))])∧w'.cell? ⟨P,0,none⟩=some (.int .i64 x)∧Fr [] w w':=by
 have H162:=hid (hc _ ((Fr.refl [] w).alloc (.cells vs 35)));clear hc;subst hvs;go_enter Tryz.func94,Tryz.ntmps94;go_wp2_with fail;refine H162.out.mono ?_;rintro e w1 ⟨v,rfl,⟨P,rfl,hP⟩,hf1⟩;have HP:=hid hP;have HF1:=hid (((Fr.refl [] w).alloc _).trans hf1);clear hP hf1 H162;go_wp2;go_ret2;exact⟨P,rfl,HP.out,HF1.out⟩
set_option maxRecDepth 10000 in
theorem newC_bad (vs:Array Value)(s:ByteArray)(b x:Int)(aW aB:Option Addr)(nW cW nB cB:Nat)(w:World)(hF:Floor w)(hvs:vs=#[.string s,.int .i64 b,.slice aW nW cW,.slice aB nB cB])
 (hc:∀w',Fr [] w w'→Calls Tryz.prog 162 #[.agg vs] w' fun e w2=>∃v,e=.returned v∧faultAt w2 v x∧Fr [] w' w2) :
 Calls Tryz.prog 52 #[.agg vs] w fun e w'=>e=.returned (.tuple #[.pointer none,.int .i64 x])∧Fr [] w w':=by
 have HFb:=hid (show Fr [] w (w.alloc (.cells vs 35))from(Fr.refl [] w).alloc _);have H94:=hid (newP_bad vs s b x aW aB nW cW nB cB _ hvs (fun w' hf=>hc w' (HFb.out.trans hf)));have HFL:=hid (fun(X:World) (hf:Fr [] w X)=>(hF.fr hf).e0);clear hc hF;subst hvs;go_enter Tryz.func52,Tryz.ntmps52;go_wp2_with fail;refine H94.out.mono ?_;rintro e w1 ⟨P,rfl,hP,hf1⟩;have HF1:=hid (HFb.out.trans hf1);have H37:=hid (number_hit P x w1 (HFL.out w1 HF1.out) hP);clear hP hf1 H94;go_wp2_with fail;refine H37.out.mono ?_;rintro e w2 ⟨rfl,hf2⟩;have HF2:=hid (HF1.out.trans hf2);clear hf2 H37;go_wp2;go_ret2;exact⟨rfl,HF2.out⟩
set_option maxRecDepth 10000 in
theorem newC_good (vs:Array Value)(s:ByteArray)(b:Int)(aW aB:Option Addr)(nW cW nB cB:Nat)(w:World)(hvs:vs=#[.string s,.int .i64 b,.slice aW nW cW,.slice aB nB cB])(Bd V X:List Int)(r:Int)(Ls:List Ln)
 (hc:∀w',Fr [] w w'→Calls Tryz.prog 94 #[.agg vs] w' fun e w2=>∃P v0 v1 v2 vL hs,e=.returned (.tuple #[.pointer (some ⟨P,0,none⟩),.nilIface])∧LP w2 w'.heap.size P Bd V X r Ls v0 v1 v2 vL hs∧Fr [] w' w2) :
 Calls Tryz.prog 52 #[.agg vs] w fun e w'=>∃Q P v0 v1 v2 vL hs,e=.returned (.tuple #[.pointer (some ⟨Q,0,none⟩),.int .i64 0])∧w'.heap[Q]?=some (.cells #[.pointer (some ⟨P,0,none⟩)] 111 (0,0))∧w.heap.size≤Q∧LP w' (w.heap.size+1) P Bd V X r Ls v0 v1 v2 vL hs∧Fr [] w w':=by
 have HFb:=hid (show Fr [] w (w.alloc (.cells vs 35))from(Fr.refl [] w).alloc _);have H94:=hid (hc _ HFb.out);clear hc;subst hvs;go_enter Tryz.func52,Tryz.ntmps52;go_wp2_with fail;refine H94.out.mono ?_;rintro e w1 ⟨P,v0,v1,v2,vL,hs,rfl,hL,hf1⟩;rw[World.size_alloc]at hL;have HL:=hid hL;have HF1:=hid (HFb.out.trans hf1);clear hL hf1 H94;go_wp2;go_ret2;exact⟨_,P,v0,v1,v2,vL,hs,rfl,obj_new w1 _,HF1.out.size,HL.out.fr ((Fr.refl [] w1).alloc _) (fun k hk=>absurd hk List.not_mem_nil),HF1.out.alloc _⟩
end Go.Proofs.YtnakejhohdbfdaaGreatDoor
namespace Go.Proofs.YtnakejhohdbfdaaGreatDoor
open Go.RowKit Lev Lay Bnd Go.Shelf
set_option maxRecDepth 10000 in
theorem vis_nil (v0 v1 v2:Value)(w:World) :
 Calls Tryz.prog 229 #[.agg #[v0,v1,v2],.int .i64 0,.int .i64 0] w fun e w'=>∃go,e=.returned (.slice (some ⟨go,0,none⟩) 0 0)∧w'.ownsRow w.heap.size 3 1 (.slice (some ⟨go,0,none⟩) 0 0) 0 (intsN [])∧Fr [] w w':=by
 obtain⟨i3,hi3,hz30,hz31,hz32⟩:=info_parts info3;have hmk1:∀X:World,(Instr.makeSlice 22 (.int .i64 0) (.int .i64 0)).run Tryz.prog X=.ok (.slice (some ⟨X.heap.size,0,none⟩) 0 0) (X.alloc (.cells #[] 3)):=fun X=>by
  have:=run_make (P:=Tryz.prog) X 22 3 i3 _ Tryz.underlying22 hi3 hz30 .i64 .i64 0 0 (by omega) (Int.le_refl _) (by rw[hz32];omega) (by omega);rw[hz31]at this;exact this.trans (by simp[madeCells,Array.range])
 obtain⟨wx,hwx⟩:∃wx,wx=(w.alloc (.cells #[v0,v1,v2] 163)).alloc (.cells #[] 3):=⟨_,rfl⟩;have HF:=hid (show Fr [] w wx by rw[hwx];exact((Fr.refl [] w).alloc _).alloc _)
 have HO:=hid (show wx.heap[w.heap.size+1]?=some (.cells #[] 3 (0,0)) by
  have h:=obj_new (w.alloc (.cells #[v0,v1,v2] 163)) (.cells #[] 3)
  rw[←hwx]at h;simpa using h)
 go_enter Tryz.func229,Tryz.ntmps229;go_wp2_with fail;rw[←hwx];clear hwx;go_loopw [8,9,19] (fun a b c wr=>a=.int .i64 0∧b=.int .i64 9223372036854775807∧c=.int .i64 0∧Hid (wr.heap[w.heap.size+1]?=some (.cells #[] 3 (0,0)))∧Hid (Fr [] w wr)) (fun _ _ _ _=>0)
 case atStart=>exact⟨rfl,rfl,rfl,HO,HF⟩
 case round =>
  obtain⟨rfl,rfl,rfl,HO1,HF1⟩:=hrel;go_wp2_with fail;go_loopw [12] (fun a wr=>a=.int .i64 0∧Hid (wr.heap[w.heap.size+1]?=some (.cells #[] 3 (0,0)))∧Hid (Fr [] w wr)) (fun _ _=>0)
  case atStart=>exact⟨rfl,HO1,HF1⟩
  case round =>
   obtain⟨rfl,HO2,HF2⟩:=hrel;go_wp2_with fail;go_ret;exact⟨w.heap.size+1,rfl,⟨rfl,.inr ⟨_,0,#[],rfl,Nat.le_succ _,HO2.out,Nat.le_refl _,Nat.zero_le _,rfl,rfl⟩⟩,HF2.out⟩
set_option maxRecDepth 10000 in
theorem gaps_nil (v0 v1 v2:Value)(g c:Nat)(w:World) :
 Calls Tryz.prog 230 #[.agg #[v0,v1,v2],.slice (some ⟨g,0,none⟩) 0 c] w fun e w'=>∃gx cx,e=.returned (.slice (some ⟨gx,0,none⟩) 1 cx)∧w'.ownsRow w.heap.size 2 1 (.slice (some ⟨gx,0,none⟩) 1 cx) 1 (ints64 [0])∧Fr [] w w':=by
 obtain⟨wx,hwx⟩:∃wx,wx=(w.alloc (.cells #[v0,v1,v2] 163)).alloc (.cells #[.int .i64 0] 2):=⟨_,rfl⟩;have HF:=hid (show Fr [] w wx by rw[hwx];exact((Fr.refl [] w).alloc _).alloc _)
 have HO:=hid (show wx.heap[w.heap.size+1]?=some (.cells #[.int .i64 0] 2 (0,0)) by
  have h:=obj_new (w.alloc (.cells #[v0,v1,v2] 163)) (.cells #[.int .i64 0] 2)
  rw[←hwx]at h;simpa using h)
 go_enter Tryz.func230,Tryz.ntmps230;go_wp2_with fail;rw[←hwx];clear hwx;go_loopw [5,11] (fun a b wr=>a=.slice (some ⟨w.heap.size+1,0,none⟩) 1 1∧b=.int .i64 0∧Hid (wr.heap[w.heap.size+1]?=some (.cells #[.int .i64 0] 2 (0,0)))∧Hid (Fr [] w wr)) (fun _ _ _=>0)
 case atStart=>exact⟨rfl,rfl,HO,HF⟩
 case round =>
  obtain⟨rfl,rfl,HO1,HF1⟩:=hrel;go_wp2_with fail;go_ret;exact⟨w.heap.size+1,1,rfl,⟨rfl,.inr ⟨_,1,#[.int .i64 0],rfl,Nat.le_succ _,HO1.out,Nat.le_refl _,by unfold maxLen;omega,rfl,rfl⟩⟩,HF1.out⟩
end Go.Proofs.YtnakejhohdbfdaaGreatDoor
namespace Go.Proofs.YtnakejhohdbfdaaGreatDoor
open Go.RowKit Lev Lay Bnd
def ln0:Ln:=⟨0,0,[],[0]⟩
theorem at_nil (gB cB:Nat)(v1 v2:Value)(w:World)(hB:rowAt w gB 1 [0]) :
 Calls Tryz.prog 102 #[.agg #[.slice (some ⟨gB,0,none⟩) 1 cB,v1,v2],.int .i64 0] w fun e w'=>e=.returned (.int .i64 0)∧Fr [] w w' :=
 (at_any [0] 0 ⟨by simp,rfl,rfl⟩ 0 gB cB 1 v1 v2 w rfl (by omega) hB).mono (fun _ _ h=>h)
set_option maxRecDepth 10000 in
set_option maxHeartbeats 4000000 in
theorem lines_nil (gB cB ge ce:Nat)(w:World)(hce:2≤ce)(hB:rowAt w gB 1 [0])(hE:rowAt w ge 2 [0,0]) :
 Calls Tryz.prog 208 #[.agg #[.slice (some ⟨gB,0,none⟩) 1 cB,.slice none 0 0,.slice none 0 0],.slice (some ⟨ge,0,none⟩) 2 ce] w fun e w'=>∃vL hs,e=.returned vL∧w'.ownsRow w.heap.size 51 4 vL 1 hs∧lnsAt w' w.heap.size w'.heap.size hs [ln0]∧Fr [] w w':=by
 obtain⟨i51,hi51,hx0,hx1,hx2⟩:=info_parts info51;obtain⟨vS,hvS⟩:∃vS:Array Value,vS=#[.slice (some ⟨gB,0,none⟩) 1 cB,.slice none 0 0,.slice none 0 0]:=⟨_,rfl⟩;obtain⟨wb,hwb'⟩:∃wb,wb=w.alloc (.cells #[.slice (some ⟨gB,0,none⟩) 1 cB,.slice none 0 0,.slice none 0 0] 163):=⟨_,rfl⟩;have HFb:=hid (show Fr [] w wb by rw[hwb'];exact(Fr.refl [] w).alloc _);have HOB:=hid (show wb.heap[w.heap.size]?=some (.cells #[.slice (some ⟨gB,0,none⟩) 1 cB,.slice none 0 0,.slice none 0 0] 163 (0,0)) by rw[hwb'];exact obj_new w _);have hwbs:wb.heap.size=w.heap.size+1:=by rw[hwb'];simp
 have HE:=hid hE;have HA:=hid (fun(X:World) (hf:Fr [] w X)=>at_nil gB cB (.slice none 0 0) (.slice none 0 0) X (hB.fr hf List.not_mem_nil));have HVS:=hid (fun(X:World)=>vis_nil (.slice (some ⟨gB,0,none⟩) 1 cB) (.slice none 0 0) (.slice none 0 0) X);have HGP:=hid (fun(go:Nat) (X:World)=>gaps_nil (.slice (some ⟨gB,0,none⟩) 1 cB) (.slice none 0 0) (.slice none 0 0) go 0 X);clear hvS hE hB vS;have hce1:¬ce=1:=by omega
 have hce2:1<ce:=by omega
 go_enter Tryz.func208,Tryz.ntmps208;go_wp2_with fail;rw[←hwb'];go_loopw [5,13] (fun vL kk wr=>∃(i:Nat) (hs:List Value),kk=.int .i64 i∧i≤1∧Hid (wr.ownsRow (w.heap.size+1) 51 4 vL i hs)∧Hid (lnsAt wr (w.heap.size+1) wr.heap.size hs ([ln0].take i))∧Hid (Fr [] wb wr)) (fun _ kk _=>1 - (intOf kk).toNat)
 case atStart=>exact⟨0,[],rfl,Nat.zero_le _,hid ⟨rfl,.inl ⟨rfl,rfl⟩⟩,hid (fun j l hj=>by simp at hj),hid (Fr.refl _ _)⟩
 case round =>
  obtain⟨i,hs,rfl,hiK,HL,HI,HF⟩:=hrel;have HFw:=hid (HFb.out.trans HF.out);by_cases hil:i<1
  ·obtain rfl:i=0:=by omega
   have e0:wr.cell? ⟨ge,0,none⟩=some (.int .i64 0):=HE.out.fr HFw.out List.not_mem_nil 0 (by omega);have e1:wr.cell? ⟨ge,1,none⟩=some (.int .i64 0):=HE.out.fr HFw.out List.not_mem_nil 1 (by omega);obtain⟨aL,cL,hvL⟩:=owns_slice HL.out;subst hvL;have HOBr:=hid (obj_fr HOB.out HF.out List.not_mem_nil);have s0:wr.cell? ⟨w.heap.size,0,none⟩=some (.slice (some ⟨gB,0,none⟩) 1 cB):=obj_cell HOBr.out (i:=0) rfl;have s1:wr.cell? ⟨w.heap.size,1,none⟩=some (.slice none 0 0):=obj_cell HOBr.out (i:=1) rfl;have s2:wr.cell? ⟨w.heap.size,2,none⟩=some (.slice none 0 0):=obj_cell HOBr.out (i:=2) rfl;have HS0:=hid (And.intro s0 (And.intro s1 s2));have hbl:=World.block_lt_of_cell? _ _ s0;dsimp only at hbl;go_wp2_with fail;go_region_held (fun wz=>wz.cell? ⟨w.heap.size,0,none⟩=some (.slice (some ⟨gB,0,none⟩) 1 cB)∧wz.cell? ⟨w.heap.size,1,none⟩=some (.slice none 0 0)∧wz.cell? ⟨w.heap.size,2,none⟩=some (.slice none 0 0))
    (first | exact HS1 | exact HS0.out | go_keep)
    (first
      | (go_at_call 102;refine(HA.out _ ?fa).mono ?_;(case fa=>first | exact HF1.out.trans (frz _ _ _ rfl rfl rfl rfl) | exact HFw.out.trans (frz _ _ _ rfl rfl rfl rfl));rintro e w1 ⟨rfl,hf1⟩;have HF1:=hid (show Fr [] w w1 from by first | exact HF1.out.trans ⟨hf1.os,hf1.tape,hf1.output,hf1.size,hf1.block⟩ | exact HFw.out.trans ⟨hf1.os,hf1.tape,hf1.output,hf1.size,hf1.block⟩);have HG1:=hid (show Fr [] wr w1 from by first | exact HG1.out.trans ⟨hf1.os,hf1.tape,hf1.output,hf1.size,hf1.block⟩ | exact⟨hf1.os,hf1.tape,hf1.output,hf1.size,hf1.block⟩);have HS1:=And.intro (HG1.out.cell s0 List.not_mem_nil) (And.intro (HG1.out.cell s1 List.not_mem_nil) (HG1.out.cell s2 List.not_mem_nil));clear hf1)
      | (go_at_call 229;refine(HVS.out _).mono ?_;rintro e w2 ⟨go,rfl,own2,hf2⟩;have HO2:=hid (owns_low (base':=w.heap.size+1) own2 (Nat.le_trans hbl HG1.out.size));have HG2:=hid (show Fr [] wr w2 from HG1.out.trans ⟨hf2.os,hf2.tape,hf2.output,hf2.size,hf2.block⟩);have hsz2:=HG1.out.size;have HS1:=And.intro (HG2.out.cell s0 List.not_mem_nil) (And.intro (HG2.out.cell s1 List.not_mem_nil) (HG2.out.cell s2 List.not_mem_nil));clear own2 hf2))
   all_goals (
    obtain⟨t0,t1,t2⟩:=HS1
    have hbl2:=HG2.out.size
    go_wp2_with (first
     | (go_at_call 230;refine(HGP.out _ _).mono ?_;rintro e w3 ⟨gx,cx,rfl,own3,hf3⟩;have HX3:=hid (owns_low (base':=w.heap.size+1) own3 (Nat.le_trans hbl hbl2));have HG3:=hid (show Fr [] w2 w3 from⟨hf3.os,hf3.tape,hf3.output,hf3.size,hf3.block⟩);have hbl3:=HG3.out.size;have HL3:=hid (owns_fr0 HL.out (HG2.out.trans HG3.out));clear own3 hf3)
     | (at_builtin;refine wpList_append_own _ rfl _ _ 164 rfl (w.heap.size+1) 51 i51 _ 4 64 Tryz.underlying164 hi51 hx0 hx1 hx2 rfl (by decide) _ 0 hs rfl ?own _ 1 1 [.int .i64 0,.int .i64 0,.slice (some ⟨go,0,none⟩) 0 0,.slice (some ⟨gx,0,none⟩) 1 cx] rfl rfl (news_at _ _ _ _ (by simp)) (line_one _ _ _ _ _ _ _ _) (by unfold maxLen;omega) (by omega) ?szz ?_))
    case own=>exact HL3.out.alloc _
    case szz=>simp;omega
    intro v' w' hown hgrow hnil
    obtain⟨g',c',hv'⟩:=owns_shape (by omega) hown
    subst hv'
    have HHO:=hid hown
    have HHG:=hid hgrow
    have HF3:=hid (show Fr [] w2 (w3.alloc (.cells #[.int .i64 0,.int .i64 0,.slice (some ⟨go,0,none⟩) 0 0,.slice (some ⟨gx,0,none⟩) 1 cx] 51))from HG3.out.alloc _)
    have HKD:=hid (fun(e:Nat) (v:Value) (m:Nat) (xs:List Value) (he:e=3∨e=2) (hh:(w3.alloc (.cells #[.int .i64 0,.int .i64 0,.slice (some ⟨go,0,none⟩) 0 0,.slice (some ⟨gx,0,none⟩) 1 cx] 51)).ownsRow (w.heap.size+1) e 1 v m xs)=>show w'.ownsRow (w.heap.size+1) e 1 v m xs from owns_kind hh HHG.out (fun g hg=>by
     obtain⟨cs,t',f',h5,h6⟩:=owns_type (HL3.out.alloc (.cells #[.int .i64 0,.int .i64 0,.slice (some ⟨go,0,none⟩) 0 0,.slice (some ⟨gx,0,none⟩) 1 cx] 51)) hg
     exact⟨cs,t',f',h5,by rw[h6];rcases he with rfl | rfl <;> decide⟩))
    have hszw:w3.heap.size≤w'.heap.size:=by have h5:=hgrow.size;simp at h5;omega
    have HI4:=hid (show lnsAt w' (w.heap.size+1) w'.heap.size (hs++[.int .i64 0,.int .i64 0,.slice (some ⟨go,0,none⟩) 0 0,.slice (some ⟨gx,0,none⟩) 1 cx]) [ln0] by
     refine lnsAt.snoc (Ls:=[]) (l:=ln0) (n:=0) HI.out rfl HL.out.1 (by have:=HG2.out.size;have:=HG3.out.size;omega) (fun e v m xs he _ hh=>HKD.out e v m xs he (owns_fr0 hh (HG2.out.trans HF3.out))) ?_ ?_ ?_ ?_
     ·exact HKD.out 3 _ _ _ (.inl rfl) (owns_fr0 HO2.out HF3.out)
     ·exact HKD.out 2 _ _ _ (.inr rfl) (HX3.out.alloc _)
     ·intro g hg;cases hg;have:=(owns_at HO2.out).2;show go<_;omega
     ·intro g hg;cases hg;have:=(owns_at HX3.out).2;show gx<_;omega)
    have HF4:=hid (show Fr [] wb w' from(HF.out.trans (HG2.out.trans HF3.out)).grown HHG.out (fun g hg=>by
     have:=(HL3.out.lt g hg).1;omega))
    clear hown hgrow hnil
    go_wp2
    go_roundw
    case rel=>exact⟨1,_,rfl,by omega,HHO,HI4,HF4⟩
    case measure=>simp[intOf])
  ·obtain rfl:i=1:=by omega
   have HIL:=hid (show lnsAt wr w.heap.size wr.heap.size hs [ln0]from fun j l hj=>by
    obtain⟨vO,vX,a1,a2,a3,a4,a5,a6,a7⟩:=HI.out j l hj
    exact⟨vO,vX,a1,a2,a3,a4,owns_low a5 (by omega),owns_low a6 (by omega),a7⟩)
   go_wp2;go_ret;exact⟨_,hs,rfl,owns_low HL.out (by omega),HIL.out,HFw.out⟩
end Go.Proofs.YtnakejhohdbfdaaGreatDoor
namespace Go.Proofs.YtnakejhohdbfdaaGreatDoor
open Go.RowKit Lev Lay Bnd Go.Shelf
attribute [local go_sem] Oper.semAt_some
theorem bnd_nil {s:ByteArray}(hs:s.size=0):bnd s 0=[0]:=by
 rw[bnd,if_neg (by omega)];rfl
set_option maxRecDepth 10000 in
set_option maxHeartbeats 2000000 in
theorem signs_nil (s:ByteArray)(b:Int)(aW aB:Option Addr)(nW cW nB cB gL cL:Nat)(w:World)(hs:s.size=0)(ht:Cls.TabAt w 9 Tabs.kindTab) :
 Calls Tryz.prog 207 #[.agg #[.string s,.int .i64 b,.slice aW nW cW,.slice aB nB cB],.slice none 0 0,.slice (some ⟨gL,0,none⟩) 0 cL] w fun e w'=>∃gB cB,e=.returned (.agg #[.slice (some ⟨gB,0,none⟩) 1 cB,.slice none 0 0,.slice none 0 0])∧rowAt w' gB 1 [0]∧w.heap.size≤gB∧Fr [] w w':=by
 obtain⟨w2,hw2⟩:∃w2,w2=(w.alloc (.cells #[.string s,.int .i64 b,.slice aW nW cW,.slice aB nB cB] 35)).alloc (.cells #[.slice none 0 0,.slice none 0 0,.slice none 0 0] 163):=⟨_,rfl⟩;have HF2:=hid (show Fr [] w w2 by rw[hw2];exact((Fr.refl [] w).alloc _).alloc _);have HO1:=hid (show w2.heap[w.heap.size]?=some (.cells #[.string s,.int .i64 b,.slice aW nW cW,.slice aB nB cB] 35 (0,0)) by rw[hw2];exact obj_fr (obj_new w _) ((Fr.refl [] _).alloc _) List.not_mem_nil);have hw2s:w2.heap.size=w.heap.size+2:=by rw[hw2];simp
 have HO2:=hid (show w2.heap[w.heap.size+1]?=some (.cells #[.slice none 0 0,.slice none 0 0,.slice none 0 0] 163 (0,0)) by
  have h:=obj_new (w.alloc (.cells #[.string s,.int .i64 b,.slice aW nW cW,.slice aB nB cB] 35)) (.cells #[.slice none 0 0,.slice none 0 0,.slice none 0 0] 163)
  rw[World.size_alloc]at h;rw[hw2];exact h)
 have H205:=hid (Cls.fn25_any s w2 (by omega) (tab_fr ht HF2.out));have HE:=hid (show Dec.Ends s 0 from⟨hs.symm,fun j hj=>absurd hj (Nat.not_lt_zero _)⟩);have HBN:=hid (bnd_nil hs);have k0:=obj_cell HO1.out (i:=0) (v:=.string s) rfl;clear ht hs;go_enter Tryz.func207,Tryz.ntmps207;go_wp2_with fail;rw[←hw2];refine H205.out.mono ?_;rintro e w3 ⟨n',v,hn',rfl,own,hb3⟩;obtain rfl:=Dec.ends_unique HE.out hn';rw[HBN.out]at own;have HF3:=hid (HF2.out.trans (Fr.of_below (S:=[]) hb3));have HO23:=hid (obj_fr HO2.out (Fr.of_below (S:=[]) hb3) List.not_mem_nil);have own:w3.ownsRow w2.heap.size 3 1 v 1 (ints64 [0]):=own;obtain⟨gB,cB,hv⟩:=owns_shape (by omega) own;subst hv;have HRB:=hid (show rowAt w3 gB 1 [0]from fun j hj=>by rw[own.cellAt j (by omega),ints64_at hj]);have hgB0:=(owns_at own).1;have hgB:=(owns_at own).2;clear own hb3 hn' H205 k0 hw2;have hw3s:w.heap.size+2≤w3.heap.size:=by have:=obj_lt HO23.out;omega
 go_wp2_with fail;go_loopw [16] (fun ii wr=>ii=.int .i64 0∧Hid (wr.heap[w3.heap.size]?=some (.cells #[.slice (some ⟨gB,0,none⟩) 1 cB,.slice none 0 0,.slice none 0 0] 163 (0,0)))∧Hid (Fr [] w3 wr)) (fun _ _=>0)
 case atStart=>exact⟨rfl,hid (obj_new w3 _),hid ((Fr.refl [] w3).alloc _)⟩
 case round =>
  obtain⟨rfl,HOC,HF⟩:=hrel;have HOR:=hid (obj_fr HO23.out HF.out List.not_mem_nil);have c0:=obj_cell HOC.out (i:=0) (v:=.slice (some ⟨gB,0,none⟩) 1 cB) rfl;have c1:=obj_cell HOC.out (i:=1) (v:=.slice none 0 0) rfl;have c2:=obj_cell HOC.out (i:=2) (v:=.slice none 0 0) rfl;have r0:=obj_cell HOR.out (i:=0) (v:=.slice none 0 0) rfl;have r1:=obj_cell HOR.out (i:=1) (v:=.slice none 0 0) rfl;have r2:=obj_cell HOR.out (i:=2) (v:=.slice none 0 0) rfl;have rf0:=obj_froz HOR.out 0;have rf1:=obj_froz HOR.out 1;have rf2:=obj_froz HOR.out 2;have hne:w3.heap.size≠w.heap.size+1:=by omega
  have HEND:=hid (show(((wr.setCell ⟨w.heap.size+1,0,none⟩ (.slice (some ⟨gB,0,none⟩) 1 cB)).setCell ⟨w.heap.size+1,1,none⟩ (.slice none 0 0)).setCell ⟨w.heap.size+1,2,none⟩ (.slice none 0 0)).heap[w.heap.size+1]?=some (.cells #[.slice (some ⟨gB,0,none⟩) 1 cB,.slice none 0 0,.slice none 0 0] 163 (0,0))from obj_set (obj_set (obj_set HOR.out 0 _) 1 _) 2 _);have HFE:=hid (show Fr [w.heap.size+1] wr (((wr.setCell ⟨w.heap.size+1,0,none⟩ (.slice (some ⟨gB,0,none⟩) 1 cB)).setCell ⟨w.heap.size+1,1,none⟩ (.slice none 0 0)).setCell ⟨w.heap.size+1,2,none⟩ (.slice none 0 0))from((((Fr.refl [w.heap.size+1] wr).set (List.mem_singleton.2 rfl) _).set (List.mem_singleton.2 rfl) _).set (List.mem_singleton.2 rfl) _));go_wp2_with fail;refine bodyPost_ret (results_cell_row (t:=163) (fr:=(0,0)) rfl _ _ (w.heap.size+1) _ _ rfl HEND.out Tryz.underlying163 rfl (by kernel_rfl)) rfl ?_;refine⟨gB,cB,rfl,(HRB.out.fr HF.out List.not_mem_nil).fr HFE.out (fun h=>by have:=List.mem_singleton.1 h;omega),by omega,((((HF3.out.trans HF.out).mono (fun _ h _=>absurd h List.not_mem_nil):Fr [w.heap.size+1] w wr).trans HFE.out).mono (fun x hx hlt=>by have:=List.mem_singleton.1 hx;omega))⟩
theorem fn198_nil (w:World):Calls Tryz.prog 227 #[.slice none 0 0] w fun e w' =>
 e=.returned (.func (.func 248) #[] #[.pointer (some ⟨w.heap.size,0,none⟩)])∧w'=w.alloc (.cells #[.slice none 0 0] 29):=by
 go_enter Tryz.func227,Tryz.ntmps227;go_wp2;go_ret;exact⟨by simp,rfl⟩
set_option maxRecDepth 100000 in
theorem back_nil (bx:Nat)(m l:Nat)(V':Unit→World→Prop)(W:World)(hb:W.cell? ⟨bx,0,none⟩=some (.slice none 0 0))(h0:V' () W) :
 CallsIn Fence.wide m Tryz.prog 248 (#[.func (.yield l) #[] #[]]++#[.pointer (some ⟨bx,0,none⟩)]) W fun e B=>(∃v,e=.returned v)∧V' () B:=by
 have H0:=hid h0;clear h0;refine callsIn_of_wp Tryz.func248 rfl trivial ?_ rfl;simp only[Tryz.ntmps248,List.size_toArray,List.length_cons,List.length_nil,Nat.reduceAdd,Nat.reduceSub,Array.replicate_succ,Array.replicate_zero,List.push_toArray,List.append_toArray,List.nil_append,List.cons_append];gi_wp2;clear hb;gi_loopw [3] (fun a wr=>a=.int .i64 (-1)∧Hid (V' () wr)) (fun _ _=>0)
 case atStart=>exact⟨rfl,H0⟩
 case round =>
  obtain⟨rfl,HV⟩:=hrel;gi_wp2;go_end0;exact⟨⟨_,rfl⟩,HV.out⟩
structure VN (w:World)(B:Nat)(A:World):Prop where
 f:Fr [] w A
 n:B≤A.heap.size
 b:A.cell? ⟨w.heap.size+4,0,none⟩=some (.slice none 0 0)
theorem VN.below {w A A':World}{B:Nat}(h:VN w B A)(hB:w.heap.size+5≤B)(hb:Below B A A'):VN w B A' :=
 ⟨⟨hb.os.trans h.f.os,hb.tape.trans h.f.tape,hb.output.trans h.f.output,Nat.le_trans h.f.size hb.size,fun k hk hn=>(hb.block k (by omega)).trans (h.f.block k hk hn)⟩,Nat.le_trans h.n hb.size,(hb.cell (by show w.heap.size+4<B;omega)).trans h.b⟩
set_option maxRecDepth 100000 in
set_option maxHeartbeats 4000000 in
theorem ends_nil (gL cL ge m ce:Nat)(bs:Int)(w:World) :
 Calls Tryz.prog 206 #[.slice none 0 0,.slice (some ⟨gL,0,none⟩) 0 cL,.int .i64 bs,.slice (some ⟨ge,0,none⟩) m ce] w fun e w'=>e=.returned (.tuple #[])∧Fr [] w w':=by
 refine(callsIn_wide (n:=3)).1 ?_;refine callsIn_of_wp_marks Tryz.func206 rfl trivial ?_ rfl;simp only[Tryz.ntmps206,List.size_toArray,List.length_cons,List.length_nil,Nat.reduceAdd,Nat.reduceSub,Array.replicate_succ,Array.replicate_zero,List.push_toArray,List.append_toArray,List.nil_append,List.cons_append];gi_wp2_with (refine⟨trivial,?_⟩;gi_at_call 227;refine(callsIn_wide.2 (fn198_nil _)).mono ?_;rintro e w' ⟨rfl,rfl⟩);obtain⟨W0,hW0⟩:∃W0,((((w.alloc (.cells #[.slice (some ⟨gL,0,none⟩) 0 cL] 22)).alloc (.cells #[.int .i64 bs] 3)).alloc (.cells #[.slice (some ⟨ge,0,none⟩) m ce] 22)).alloc (.cells #[.bool false] 4)).alloc (.cells #[.slice none 0 0] 29)=W0:=⟨_,rfl⟩;have hsz:W0.heap.size=w.heap.size+5:=by rw[←hW0];simp
 have hV0:VN w W0.heap.size W0:=by
  have k4:W0.heap[w.heap.size+4]?=some (.cells #[.slice none 0 0] 29 (0,0)):=by
   have h:=obj_new ((((w.alloc (.cells #[.slice (some ⟨gL,0,none⟩) 0 cL] 22)).alloc (.cells #[.int .i64 bs] 3)).alloc (.cells #[.slice (some ⟨ge,0,none⟩) m ce] 22)).alloc (.cells #[.bool false] 4)) (.cells #[.slice none 0 0] 29);rw[hW0]at h;simpa using h
  refine⟨?_,Nat.le_refl _,obj_cell k4 (i:=0) rfl⟩;rw[←hW0];exact(((((Fr.refl [] w).alloc _).alloc _).alloc _).alloc _).alloc _
 rw[hW0];refine wpIn_range_al rfl (by omega) (gf:=248) (lb:=#[.pointer (some ⟨w.heap.size+4,0,none⟩)]) rfl trivial (enters_of Tryz.func248 (by kernel_rfl) rfl)
  (encs:=fun x:Nat=>#[.int .i64 x,.agg #[.int .i32 0,.int .i64 0,.int .i64 0]]) (fun _=>rfl)
  (fun(_:Unit) A=>VN w W0.heap.size A) (fun _ _ h=>h.n) (fun _ _ _ h hb=>h.below (by omega) hb)
  (fun _ _=>False) (fun _ _=>()) () ()
  (fun l V' W h1 h2 h3 h4=>back_nil _ _ l V' W (h1 () W h4).b h4)
  (fun _=>.cells #[.int .i32 0,.int .i64 0,.int .i64 0] 94)
  (fun x b=>{ tmps:=#[.slice none 0 0,.slice (some ⟨gL,0,none⟩) 0 cL,.int .i64 bs,.slice (some ⟨ge,0,none⟩) m ce,undef,.pointer (some ⟨w.heap.size,0,none⟩),.pointer (some ⟨w.heap.size+1,0,none⟩),.pointer (some ⟨w.heap.size+2,0,none⟩),.pointer (some ⟨w.heap.size+3,0,none⟩),.int .i64 x,.pointer (some ⟨b,0,none⟩),undef,undef,undef,.slice none 0 0,.func (.func 248) #[] #[.pointer (some ⟨w.heap.size+4,0,none⟩)],.int .i64 x,.agg #[.int .i32 0,.int .i64 0,.int .i64 0],undef,undef,undef,undef,undef,undef,undef,undef,undef,undef,undef,undef,undef,undef,undef,undef,undef,undef,undef,undef,undef,undef,undef,undef,undef,undef,undef,undef,undef,undef,undef],defers:=[] })
  hV0 ?assign ?body ?done
 case assign =>
  intro l x W K hK;gi_wp2;exact hK
 case body =>
  rintro l j x A b hV hF;exact hF.elim
 case done =>
  rintro D A hV hD hKd;have HV:=hid hV;clear hV hV0 hW0;gi_wp2;refine⟨by simp,.inl ⟨_,_,rfl,run_takeDeferred hKd,?_⟩⟩;refine⟨_,results_none rfl _ _ _,rfl,?_⟩;exact(HV.out.below (by omega) (below_put hD _)).f
end Go.Proofs.YtnakejhohdbfdaaGreatDoor

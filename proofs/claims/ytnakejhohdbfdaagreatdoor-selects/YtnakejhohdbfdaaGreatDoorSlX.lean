import Derived.Test.YtnakejhohdbfdaaGreatDoorXPvO
import Derived.Test.YtnakejhohdbfdaaGreatDoorXLdG
import Derived.Test.YtnakejhohdbfdaaGreatDoorXLdB
import Derived.Test.YtnakejhohdbfdaaGreatDoorXPwK
import Derived.Laws.StructEq
namespace Go.Proofs.YtnakejhohdbfdaaGreatDoor
open Go.RowKit Lev Lay Bnd
theorem lnN_get {Ls:List Ln}{i:Nat}(h:i<Ls.length):Ls[i]?=some (lnN Ls i):=by rw[lnN,List.getElem?_eq_getElem h];rfl
structure Holds (Ls:List Ln)(x:Int)(i:Nat):Prop where
 lt:i<Ls.length
 yes:x<(lnN Ls i).t
 no:∀j,j<i→¬x<(lnN Ls j).t
end Go.Proofs.YtnakejhohdbfdaaGreatDoor
namespace Go.Proofs.YtnakejhohdbfdaaGreatDoor
open Go.RowKit Lev Lay
set_option maxRecDepth 10000 in
theorem ints_drew (l:List Int)(va vb:Value)(w:World)(ha:slAt w va l)(hb:slAt w vb l)(hl:l.length≤100000) :
 Calls Tryz.prog 12 #[va,vb] w fun e w'=>e=.returned (.bool true)∧∃q,w'=w.drewN q:=by
 obtain⟨a,ca,rfl,ha⟩:=ha;obtain⟨b,cb,rfl,hb⟩:=hb;obtain⟨n,hn⟩:∃n,n=l.length:=⟨_,rfl⟩;rw[←hn]at ha hb hl ⊢;have HA:=hid ha;have HB:=hid hb;clear ha hb hn;go_enter Tryz.func12,Tryz.ntmps12;go_wp2;go_loopw [5] (fun v wr=>∃i:Nat,v=.int .i64 i∧i≤n∧Hid (∃q,wr=w.drewN q)) (fun v _=>n - (intOf v).toNat)
 case atStart=>exact⟨0,rfl,Nat.zero_le _,hid ⟨0,rfl⟩⟩
 case round =>
  obtain⟨i,rfl,hin,HQ⟩:=hrel;have HF:=hid (show Fr [] w wr by obtain⟨q,h⟩:=HQ.out;rw[h];exact fr_drewN w q);by_cases hlt:i<n
  ·have hiI:(i:Int)<(n:Int):=by omega
   obtain⟨ga,oa,rfl,ra⟩:=HA.out.resolve_left (by omega);obtain⟨gb,ob,rfl,rb⟩:=HB.out.resolve_left (by omega);have c1:=HF.out.cell (ra i hlt) List.not_mem_nil;have c2:=HF.out.cell (rb i hlt) List.not_mem_nil;generalize nth l i=y at *;clear ra rb;go_wp2;go_quiet (fail);go_wp2;go_roundw
   case rel=>exact⟨i+1,by go_num,by omega,hid (by obtain⟨q,h⟩:=HQ.out;exact⟨q+nq,by rw[h,World.drewN_drewN]⟩)⟩
   case measure=>simp[intOf];omega
  ·have hiI:¬(i:Int)<(n:Int):=by omega
   go_wp2;go_ret;exact⟨rfl,HQ.out⟩
theorem ints_same (l:List Int)(va vb:Value)(w:World)(ha:slAt w va l)(hb:slAt w vb l)(hl:l.length≤100000) :
 Calls Tryz.prog 12 #[va,vb] w fun e w'=>e=.returned (.bool true)∧Fr [] w w' :=
 (ints_drew l va vb w ha hb hl).mono (fun _ _ h=>⟨h.1,by obtain⟨q,e⟩:=h.2;rw[e];exact fr_drewN w q⟩)
theorem fit_yes (s:ByteArray)(b:Int)(aW aB:Option Addr)(nW cW nB cB:Nat)(w:World)(h1:s.size≤4096)(h2:nW≤4096)(h3:nB≤4096) :
 Calls Tryz.prog 13 #[.agg #[.string s,.int .i64 b,.slice aW nW cW,.slice aB nB cB]] w fun e w'=>e=.returned (.bool true)∧Fr [] w w':=by
 have h1':(s.size:Int)≤4096:=by omega
 have h2':(nW:Int)≤4096:=by omega
 have h3':(nB:Int)≤4096:=by omega
 go_enter Tryz.func13,Tryz.ntmps13;go_wp2;go_ret;exact⟨rfl,(Fr.refl [] w).alloc _⟩
theorem fit_no (s:ByteArray)(b:Int)(aW aB:Option Addr)(nW cW nB cB:Nat)(w:World)(h:¬(s.size≤4096∧nW≤4096∧nB≤4096)) :
 Calls Tryz.prog 13 #[.agg #[.string s,.int .i64 b,.slice aW nW cW,.slice aB nB cB]] w fun e w'=>e=.returned (.bool false)∧Fr [] w w':=by
 by_cases h1:s.size≤4096
 ·have h1':(s.size:Int)≤4096:=by omega
  by_cases h2:nW≤4096
  ·have h2':(nW:Int)≤4096:=by omega
   have h3':¬(nB:Int)≤4096:=by omega
   have h4:decide ((nB:Int)≤4096)=false:=by simp;omega
   clear h;go_enter Tryz.func13,Tryz.ntmps13;go_wp2;go_ret;exact⟨rfl,(Fr.refl [] w).alloc _⟩
  ·have h2':¬(nW:Int)≤4096:=by omega
   have h4:decide ((nW:Int)≤4096)=false:=by simp;omega
   clear h;go_enter Tryz.func13,Tryz.ntmps13;go_wp2;go_ret;exact⟨rfl,(Fr.refl [] w).alloc _⟩
 ·have h1':¬(s.size:Int)≤4096:=by omega
  have h4:decide ((s.size:Int)≤4096)=false:=by simp;omega
  clear h;go_enter Tryz.func13,Tryz.ntmps13;go_wp2;go_ret;exact⟨rfl,(Fr.refl [] w).alloc _⟩
end Go.Proofs.YtnakejhohdbfdaaGreatDoor
namespace Go.Proofs.YtnakejhohdbfdaaGreatDoor
open Go.RowKit Lev Lay Bnd
theorem own_out {S:List Nat}{w w':World}{B e size n g c:Nat}{xs:List Value}(h:w.ownsRow B e size (.slice (some ⟨g,0,none⟩) n c) n xs)(hf:Fr S w w')(hg:g ∉ S):w'.ownsRow B e size (.slice (some ⟨g,0,none⟩) n c) n xs :=
 owns_fr h hf (fun k hk=>by cases hk;exact hg)
theorem append_ad {w:World}{ops:Array Oper}{rest:List Oper}{o:Oper}{a:Act}{Q:Exit→Act→World→Prop}(hgd:o.guard=none)(s x:Operand)
 (ho:o.op=.call { callee:=.builtin .append,args:=#[s,x],argTypes:=#[22,22] }) (base g0 n c0:Nat) (xs:List Value) (hs:a.eval s=.slice (some ⟨g0,0,none⟩) n c0) (hown:w.ownsRow base 3 1 (.slice (some ⟨g0,0,none⟩) n c0) n xs)
 (l:List Int) (vx:Value) (hx:a.eval x=vx) (hl:slAd w vx l) (hnl:n+l.length≤100000) (hbase:base≤w.heap.size)
 (h:∀g c w',w'.ownsRow base 3 1 (.slice (some ⟨g,0,none⟩) (n+l.length) c) (n+l.length) (xs++ints64 l)→Fr [g0] w w'→wpList Tryz.prog ops Q rest (a.put o.dst (.slice (some ⟨g,0,none⟩) (n+l.length) c)) w'):wpList Tryz.prog ops Q (o :: rest) a w:=by
 obtain⟨i3,hi3,hz30,hz31,hz32⟩:=info_parts info3;obtain⟨ax,cx,rfl,hl⟩:=hl
 rcases hl with⟨rfl,rfl,h0⟩ | ⟨ad,rfl,hc⟩
 ·have hln:l=[]:=List.length_eq_zero_iff.1 h0
  subst hln;refine wpList_append_own_none hgd s x 22 ho base 3 i3 1 Tryz.underlying22 hi3 _ n xs hs hown hx ?_;have h2:=h g0 c0 w;simp only[List.length_nil,Nat.add_zero]at h2;exact h2 (by simpa using hown) (Fr.refl _ _)
 ·refine wpList_append_own _ hgd s x 22 ho base 3 i3 _ 1 8 Tryz.underlying22 hi3 hz30 hz31 hz32 rfl (by decide) _ n xs hs hown ad l.length cx (ints64 l) hx (by simp) (fun j u hu=>?_) (ints64_one _) (by unfold maxLen;omega) (by omega) hbase ?_
  ·have hj:j<l.length:=by have:=(List.getElem?_eq_some_iff.1 hu).1;simpa using this
   rw[ints64_at hj]at hu;rw[hc j hj];exact hu
  ·intro v' w' hown' hg hnil
   rcases hown'.2 with⟨h5,_⟩ | ⟨g',c',cur,rfl,_⟩
   ·exact absurd (hnil.1 h5).1 (by simp)
   ·exact h g' c' w' hown' (Fr.of_grown hg)
set_option maxRecDepth 10000 in
set_option maxHeartbeats 2000000 in
theorem copied_any (s:ByteArray)(b:Int)(vW vB:Value)(W Br:List Int)(w:World)(hW:slAd w vW W)(hB:slAd w vB Br)(hWl:W.length≤5000)(hBl:Br.length≤5000) :
 Calls Tryz.prog 51 #[.agg #[.string s,.int .i64 b,vW,vB]] w fun e w'=>∃gW cW gB cB,e=.returned (.agg #[.string s,.int .i64 b,.slice (some ⟨gW,0,none⟩) W.length cW,.slice (some ⟨gB,0,none⟩) Br.length cB]) ∧
  w'.ownsRow w.heap.size 3 1 (.slice (some ⟨gW,0,none⟩) W.length cW) W.length (ints64 W)∧w'.ownsRow w.heap.size 3 1 (.slice (some ⟨gB,0,none⟩) Br.length cB) Br.length (ints64 Br)∧gW<gB∧Fr [] w w':=by
 obtain⟨aW,cW0,rfl,_⟩:=id hW;obtain⟨aB,cB0,rfl,_⟩:=id hB;have HW:=hid hW;have HB:=hid hB;obtain⟨nW,hnW⟩:∃nW,nW=W.length:=⟨_,rfl⟩;obtain⟨nB,hnB⟩:∃nB,nB=Br.length:=⟨_,rfl⟩;have HNW:=hid hnW;have HNB:=hid hnB;rw[←hnW]at hWl ⊢;rw[←hnB]at hBl ⊢;clear hW hB hnW hnB;obtain⟨w2,hw2⟩:∃w2,w2=((w.alloc (.cells #[.string s,.int .i64 b,.slice aW nW cW0,.slice aB nB cB0] 35)).alloc (.cells #[.string ⟨#[]⟩,.int .i64 0,.slice none 0 0,.slice none 0 0] 35)).alloc (.cells #[] 3):=⟨_,rfl⟩;have HF2:=hid (show Fr [] w w2 by rw[hw2];exact(((Fr.refl [] w).alloc _).alloc _).alloc _);have HA2:=hid (show w2.heap[w.heap.size]?=some (.cells #[.string s,.int .i64 b,.slice aW nW cW0,.slice aB nB cB0] 35 (0,0)) by rw[hw2];exact obj_fr (obj_new w _) (((Fr.refl [] _).alloc _).alloc _) List.not_mem_nil)
 have HZ2:=hid (show w2.heap[w.heap.size+1]?=some (.cells #[.string ⟨#[]⟩,.int .i64 0,.slice none 0 0,.slice none 0 0] 35 (0,0)) by
  have h:=obj_fr (obj_new (w.alloc (.cells #[.string s,.int .i64 b,.slice aW nW cW0,.slice aB nB cB0] 35)) (.cells #[.string ⟨#[]⟩,.int .i64 0,.slice none 0 0,.slice none 0 0] 35)) ((Fr.refl [] _).alloc (.cells #[] 3)) List.not_mem_nil
  rw[←hw2]at h;simpa using h)
 have HE2:=hid (show w2.heap[w.heap.size+1+1]?=some (.cells #[] 3 (0,0)) by
  have h:=obj_new ((w.alloc (.cells #[.string s,.int .i64 b,.slice aW nW cW0,.slice aB nB cB0] 35)).alloc (.cells #[.string ⟨#[]⟩,.int .i64 0,.slice none 0 0,.slice none 0 0] 35)) (.cells #[] 3)
  rw[←hw2]at h;simpa using h)
 have hz2:w2.heap.size=w.heap.size+3:=by rw[hw2];simp
 have HW2:=hid hw2;clear hw2;go_enter Tryz.func51,Tryz.ntmps51;go_wp2_with (at_builtin;refine append_ad rfl _ _ rfl (w.heap.size+1+1) _ _ _ [] rfl ?own W _ rfl ?sl ?len ?le ?_)
 case own=>rw[←HW2.out];exact⟨rfl,.inr ⟨_,0,#[],rfl,by omega,HE2.out,Nat.le_refl _,Nat.zero_le _,rfl,rfl⟩⟩
 case sl =>
  rw[←HW2.out];have h:=HW.out.fr HF2.out;rw[←HNW.out]at h;exact h
 case len=>rw[←HNW.out];omega
 case le=>rw[←HW2.out];omega
 rw[←HW2.out];intro gW cW w3 own3 hf3;rw[←HNW.out]at own3;rw[←HNW.out];have hgW:=owns_at own3;have HO3:=hid own3;have HF3:=hid hf3;have HA3:=hid (obj_fr HA2.out hf3 (fun h=>by have:=List.mem_singleton.1 h;omega));have HZ3:=hid (obj_fr HZ2.out hf3 (fun h=>by have:=List.mem_singleton.1 h;omega));have hz3:=hf3.size;have k2:=obj_cell HA3.out (i:=2) (v:=.slice aW nW cW0) rfl;have k3:=obj_cell HA3.out (i:=3) (v:=.slice aB nB cB0) rfl;have f2:=obj_froz HA3.out 2;have f3:=obj_froz HA3.out 3;have hlt3:w.heap.size<w3.heap.size:=by omega
 clear own3 hf3;obtain⟨w4,hw4⟩:∃w4,w4=(w3.setCell ⟨w.heap.size,2,none⟩ (.slice (some ⟨gW,0,none⟩) nW cW)).alloc (.cells #[] 3):=⟨_,rfl⟩;have HF4:=hid (show Fr [w.heap.size] w3 w4 by rw[hw4];exact(fr_set1 _ _ _ _).alloc _);have HA4:=hid (show w4.heap[w.heap.size]?=some (.cells #[.string s,.int .i64 b,.slice (some ⟨gW,0,none⟩) nW cW,.slice aB nB cB0] 35 (0,0)) by rw[hw4];exact obj_fr (obj_set HA3.out 2 _) ((Fr.refl [] _).alloc _) List.not_mem_nil);have hz4:w4.heap.size=w3.heap.size+1:=by rw[hw4];simp
 have HE4:=hid (show w4.heap[w3.heap.size]?=some (.cells #[] 3 (0,0)) by
  have h:=obj_new (w3.setCell ⟨w.heap.size,2,none⟩ (.slice (some ⟨gW,0,none⟩) nW cW)) (.cells #[] 3)
  rw[←hw4]at h;simpa using h)
 have HW4:=hid hw4;clear hw4;have HFw4:=hid (show Fr [] w w4 from(HF2.out.behind HF3.out (fun k hk=>by rw[List.mem_singleton.1 hk];omega)).behind HF4.out (fun k hk=>by rw[List.mem_singleton.1 hk];exact Nat.le_refl _));go_wp2_with (at_builtin;refine append_ad rfl _ _ rfl w3.heap.size _ _ _ [] rfl ?own Br _ rfl ?sl ?len ?le ?_)
 case own=>rw[←HW4.out];exact⟨rfl,.inr ⟨_,0,#[],rfl,Nat.le_refl _,HE4.out,Nat.le_refl _,Nat.zero_le _,rfl,rfl⟩⟩
 case sl =>
  rw[←HW4.out];have h:=HB.out.fr HFw4.out;rw[←HNB.out]at h;exact h
 case len=>rw[←HNB.out];omega
 case le=>rw[←HW4.out];omega
 rw[←HW4.out];intro gB cB w5 own5 hf5;rw[←HNB.out]at own5;rw[←HNB.out];have hgB:=owns_at own5;have HO5:=hid own5;have HF5:=hid hf5;have HFw5:=hid (show Fr [] w w5 from HFw4.out.behind hf5 (fun k hk=>by rw[List.mem_singleton.1 hk];omega));have HA5:=hid (obj_fr HA4.out hf5 (fun h=>by have:=List.mem_singleton.1 h;omega));have HZ5:=hid (obj_fr (obj_fr HZ3.out HF4.out (fun h=>by have:=List.mem_singleton.1 h;omega)) hf5 (fun h=>by have:=List.mem_singleton.1 h;omega));have HO35:=hid (own_out (own_out HO3.out HF4.out (fun h=>by have:=List.mem_singleton.1 h;omega)) hf5 (fun h=>by have:=List.mem_singleton.1 h;omega));clear own5 hf5 k2 k3 f2 f3;have k0:=obj_cell HA5.out (i:=0) (v:=.string s) rfl;have k1:=obj_cell HA5.out (i:=1) (v:=.int .i64 b) rfl;have k2:=obj_cell HA5.out (i:=2) (v:=.slice (some ⟨gW,0,none⟩) nW cW) rfl;have k3:=obj_cell HA5.out (i:=3) (v:=.slice aB nB cB0) rfl;have f3:=obj_froz HA5.out 3;have z0:=obj_cell HZ5.out (i:=0) (v:=.string ⟨#[]⟩) rfl;have z1:=obj_cell HZ5.out (i:=1) (v:=.int .i64 0) rfl;have z2:=obj_cell HZ5.out (i:=2) (v:=.slice none 0 0) rfl;have z3:=obj_cell HZ5.out (i:=3) (v:=.slice none 0 0) rfl;have y0:=obj_froz HZ5.out 0;have y1:=obj_froz HZ5.out 1;have y2:=obj_froz HZ5.out 2;have y3:=obj_froz HZ5.out 3;obtain⟨w6,hw6⟩:∃w6,w6=w5.setCell ⟨w.heap.size,3,none⟩ (.slice (some ⟨gB,0,none⟩) nB cB):=⟨_,rfl⟩;have HF6:=hid (show Fr [w.heap.size] w5 w6 by rw[hw6];exact fr_set1 _ _ _ _);have HZ6:=hid (obj_fr HZ5.out HF6.out (fun h=>by have:=List.mem_singleton.1 h;omega));obtain⟨w7,hw7⟩:∃w7,w7=(((w6.setCell ⟨w.heap.size+1,0,none⟩ (.string s)).setCell ⟨w.heap.size+1,1,none⟩ (.int .i64 b)).setCell ⟨w.heap.size+1,2,none⟩ (.slice (some ⟨gW,0,none⟩) nW cW)).setCell ⟨w.heap.size+1,3,none⟩ (.slice (some ⟨gB,0,none⟩) nB cB):=⟨_,rfl⟩;have HZ7:=hid (show w7.heap[w.heap.size+1]?=some (.cells #[.string s,.int .i64 b,.slice (some ⟨gW,0,none⟩) nW cW,.slice (some ⟨gB,0,none⟩) nB cB] 35 (0,0)) by rw[hw7];exact obj_set (obj_set (obj_set (obj_set HZ6.out 0 _) 1 _) 2 _) 3 _);have HF7:=hid (show Fr [w.heap.size+1] w6 w7 by rw[hw7];exact(((fr_set1 _ _ _ _).set (List.mem_singleton.2 rfl) _).set (List.mem_singleton.2 rfl) _).set (List.mem_singleton.2 rfl) _);have HW6:=hid hw6;have HW7:=hid hw7;clear hw6 hw7;go_wp2_with fail;rw[←HW6.out,←HW7.out];refine bodyPost_ret (results_cell_row (t:=35) (fr:=(0,0)) rfl _ _ (w.heap.size+1) _ _ rfl HZ7.out Tryz.underlying35 rfl (by kernel_rfl)) rfl ?_;refine⟨gW,cW,gB,cB,rfl,?_,?_,by omega,?_⟩
 ·exact owns_low (own_out (own_out HO35.out HF6.out (fun h=>by have:=List.mem_singleton.1 h;omega)) HF7.out (fun h=>by have:=List.mem_singleton.1 h;omega)) (by omega)
 ·exact owns_low (own_out (own_out HO5.out HF6.out (fun h=>by have:=List.mem_singleton.1 h;omega)) HF7.out (fun h=>by have:=List.mem_singleton.1 h;omega)) (by omega)
 ·exact(HFw5.out.behind HF6.out (fun k hk=>by rw[List.mem_singleton.1 hk];exact Nat.le_refl _)).behind HF7.out (fun k hk=>by rw[List.mem_singleton.1 hk];omega)
theorem owns_sl {w:World}{B g c:Nat}{l:List Int}(h:w.ownsRow B 3 1 (.slice (some ⟨g,0,none⟩) l.length c) l.length (ints64 l)):slAd w (.slice (some ⟨g,0,none⟩) l.length c) l :=
 ⟨_,_,rfl,.inr ⟨_,rfl,fun i hi=>by
  rw[Addr.add_lit,Nat.zero_add,h.cellAt i (by omega),ints64_at hi]⟩⟩
set_option maxRecDepth 10000 in
set_option maxHeartbeats 2000000 in
theorem made_bad (s:ByteArray)(b:Int)(vW vB:Value)(W Br:List Int)(n:Nat)(w:World)(hF:Floor w)(hend:Dec.Ends s n)(hW:slAd w vW W)(hB:slAd w vB Br)(hWl:W.length≤5000)(hBl:Br.length≤5000)(hck:chk s n (clsOf s n) b W Br≠0) :
 Calls Tryz.prog 14 #[.agg #[.string s,.int .i64 b,vW,vB]] w fun e w'=>e=.returned (.tuple #[.pointer none,.pointer none,.bool true])∧Fr [] w w':=by
 obtain⟨aW,cW0,rfl,_⟩:=id hW;obtain⟨aB,cB0,rfl,_⟩:=id hB;obtain⟨x,hx⟩:∃x,x=chk s n (clsOf s n) b W Br:=⟨_,rfl⟩;obtain⟨wb,hwb⟩:∃wb,wb=w.alloc (.cells #[.string s,.int .i64 b,.slice aW W.length cW0,.slice aB Br.length cB0] 35):=⟨_,rfl⟩;have HFb:=hid (show Fr [] w wb by rw[hwb];exact(Fr.refl [] w).alloc _);have HOb:=hid (show wb.heap[w.heap.size]?=some (.cells #[.string s,.int .i64 b,.slice aW W.length cW0,.slice aB Br.length cB0] 35 (0,0)) by rw[hwb];exact obj_new w _);have H51:=hid (copied_any s b _ _ W Br wb (hW.fr HFb.out) (hB.fr HFb.out) hWl hBl);have HFL:=hid (fun(X:World) (hf:Fr [] w X)=>hF.fr hf);have HW:=hid hW;have HB:=hid hB;have HCP:=hid (fun(X:World) (hf:Fr [] w X) vW vB hW hB=>ckP_all s b vW vB W Br n X (hF.fr hf) hend hW hWl hB hBl);have HCD:=hid (fun(X:World) (hf:Fr [] w X)=>ckD_all s b _ _ W Br n X (hF.fr hf).u hend (hW.at.fr hf) hWl (hB.at.fr hf) hBl);have HIW:=hid (fun(X:World) (hf:Fr [] w X) v (hv:slAt X v W)=>ints_same W v _ X hv (hW.at.fr hf) (by omega));have HIB:=hid (fun(X:World) (hf:Fr [] w X) v (hv:slAt X v Br)=>ints_same Br v _ X hv (hB.at.fr hf) (by omega));rw[←hx]at HCP HCD hck;obtain⟨nW,hnW⟩:∃nW,nW=W.length:=⟨_,rfl⟩;obtain⟨nB,hnB⟩:∃nB,nB=Br.length:=⟨_,rfl⟩;have HNW:=hid hnW;have HNB:=hid hnB;rw[←hnW]at HOb H51 HIW HCD hwb hWl ⊢;rw[←hnB]at HOb H51 HIB HCD hwb hBl ⊢;have HX:=hid hck;have hx2:(x == 0)=false:=by simp[hck]
 have hx3:(x != 0)=true:=by simp[hck]
 clear hW hB hF hx hend hnW hnB;go_enter Tryz.func14,Tryz.ntmps14;go_wp2_with fail;rw[←hwb];clear hwb;refine H51.out.mono ?_;rintro e w1 ⟨gW,cW,gB,cB,rfl,ownW,ownB,hgg,hf1⟩;obtain⟨w2,hw2⟩:∃w2,w2=w1.alloc (.cells #[.string s,.int .i64 b,.slice (some ⟨gW,0,none⟩) nW cW,.slice (some ⟨gB,0,none⟩) nB cB] 35):=⟨_,rfl⟩;have HF2:=hid (show Fr [] w w2 by rw[hw2];exact(HFb.out.trans hf1).alloc _);have HO1:=hid (show w2.heap[w.heap.size]?=some (.cells #[.string s,.int .i64 b,.slice aW nW cW0,.slice aB nB cB0] 35 (0,0)) by rw[hw2];exact obj_fr HOb.out (hf1.alloc _) List.not_mem_nil);have HO5:=hid (show w2.heap[w1.heap.size]?=some (.cells #[.string s,.int .i64 b,.slice (some ⟨gW,0,none⟩) nW cW,.slice (some ⟨gB,0,none⟩) nB cB] 35 (0,0)) by rw[hw2];exact obj_new w1 _)
 have HLW:=hid (show slAd w2 (.slice (some ⟨gW,0,none⟩) nW cW) W by
  have h:=owns_fr0 (w':=w2) ownW (by rw[hw2];exact(Fr.refl [] _).alloc _)
  rw[HNW.out]at h ⊢
  exact owns_sl h)
 have HLB:=hid (show slAd w2 (.slice (some ⟨gB,0,none⟩) nB cB) Br by
  have h:=owns_fr0 (w':=w2) ownB (by rw[hw2];exact(Fr.refl [] _).alloc _)
  rw[HNB.out]at h ⊢
  exact owns_sl h)
 have H52:=hid (newC_bad #[.string s,.int .i64 b,.slice (some ⟨gW,0,none⟩) nW cW,.slice (some ⟨gB,0,none⟩) nB cB] s b x (some ⟨gW,0,none⟩) (some ⟨gB,0,none⟩) nW cW nB cB w2 (HFL.out w2 HF2.out) rfl (fun w' hf=>by
  refine(HCP.out w' (HF2.out.trans hf) _ _ (HLW.out.at.fr hf) (HLB.out.at.fr hf)).mono ?_
  rintro e w'' ⟨v,rfl,hv,hf2⟩
  rcases hv with h | h
  ·exact absurd h.2 HX.out
  ·exact⟨v,rfl,h.2,hf2⟩))
 have HWS:=hid hw2;have hw1:w.heap.size<w1.heap.size:=by have:=obj_lt HOb.out;have:=hf1.size;omega
 clear ownW ownB hf1 hw2 hck;go_wp2_with fail;rw[←HWS.out];refine H52.out.mono ?_;rintro e w3 ⟨rfl,hf3⟩;have HF3:=hid (HF2.out.trans hf3);have HO13:=hid (obj_fr HO1.out hf3 List.not_mem_nil);have HO53:=hid (obj_fr HO5.out hf3 List.not_mem_nil);have k2:=obj_cell HO13.out (i:=2) (v:=.slice aW nW cW0) rfl;have k3:=obj_cell HO13.out (i:=3) (v:=.slice aB nB cB0) rfl;have j2:=obj_cell HO53.out (i:=2) (v:=.slice (some ⟨gW,0,none⟩) nW cW) rfl;have j3:=obj_cell HO53.out (i:=3) (v:=.slice (some ⟨gB,0,none⟩) nB cB) rfl;have HLB3:=hid (HLB.out.at.fr hf3);have H12:=hid (HIW.out w3 HF3.out _ (HLW.out.at.fr hf3));clear hf3 H52;go_wp2_with fail;refine H12.out.mono ?_;rintro e w4 ⟨rfl,hf4⟩;have HF4:=hid (HF3.out.trans hf4);have HO14:=hid (obj_fr HO13.out hf4 List.not_mem_nil);have HO54:=hid (obj_fr HO53.out hf4 List.not_mem_nil);have k3:=obj_cell HO14.out (i:=3) (v:=.slice aB nB cB0) rfl;have j3:=obj_cell HO54.out (i:=3) (v:=.slice (some ⟨gB,0,none⟩) nB cB) rfl;have H12b:=hid (HIB.out w4 HF4.out _ (HLB3.out.fr hf4));clear hf4 H12;go_wp2_with fail;refine H12b.out.mono ?_;rintro e w5 ⟨rfl,hf5⟩;have HF5:=hid (HF4.out.trans hf5);have HO15:=hid (obj_fr HO14.out hf5 List.not_mem_nil);have l0:=obj_cell HO15.out (i:=0) (v:=.string s) rfl;have l1:=obj_cell HO15.out (i:=1) (v:=.int .i64 b) rfl;have l2:=obj_cell HO15.out (i:=2) (v:=.slice aW nW cW0) rfl;have l3:=obj_cell HO15.out (i:=3) (v:=.slice aB nB cB0) rfl;have H53:=hid (HCD.out w5 HF5.out);clear hf5 H12b;go_wp2_with fail;refine H53.out.mono ?_;rintro e w6 ⟨rfl,hf6⟩;have HF6:=hid (HF5.out.trans hf6);clear hf6 H53;go_wp2_with fail;go_ret3;exact⟨rfl,HF6.out⟩
set_option maxRecDepth 10000 in
set_option maxHeartbeats 4000000 in
theorem made_good (s:ByteArray)(b:Int)(vW vB:Value)(W Br:List Int)(n:Nat)(w:World)(hF:Floor w)(hend:Dec.Ends s n)(hW:slAd w vW W)(hB:slAd w vB Br)(hWl:W.length≤5000)(hBl:Br.length≤5000)(hck:chk s n (clsOf s n) b W Br=0)
 (Bd V X:List Int) (r bs:Int) (Cs:List (Int × Int × Int × Int)) (Ls:List Ln) (T:Twin s b W Br Bd V X r bs Cs Ls) :
 Calls Tryz.prog 14 #[.agg #[.string s,.int .i64 b,vW,vB]] w fun e w'=>∃Q lb,e=.returned (.tuple #[.pointer (some ⟨Q,0,none⟩),.pointer (some ⟨lb,0,none⟩),.bool true]) ∧
  Hid (∃P B v0 v1 v2 vL hs,w'.heap[Q]?=some (.cells #[.pointer (some ⟨P,0,none⟩)] 111 (0,0))∧LP w' B P Bd V X r Ls v0 v1 v2 vL hs)∧Hid (∃WB vC vM hm,LD WB w' w'.heap.size lb s bs vC vM Cs Ls hm)∧Fr [] w w':=by
 obtain⟨aW,cW0,rfl,_⟩:=id hW;obtain⟨aB,cB0,rfl,_⟩:=id hB;obtain⟨wb,hwb⟩:∃wb,wb=w.alloc (.cells #[.string s,.int .i64 b,.slice aW W.length cW0,.slice aB Br.length cB0] 35):=⟨_,rfl⟩;have HFb:=hid (show Fr [] w wb by rw[hwb];exact(Fr.refl [] w).alloc _);have HOb:=hid (show wb.heap[w.heap.size]?=some (.cells #[.string s,.int .i64 b,.slice aW W.length cW0,.slice aB Br.length cB0] 35 (0,0)) by rw[hwb];exact obj_new w _);have H51:=hid (copied_any s b _ _ W Br wb (hW.fr HFb.out) (hB.fr HFb.out) hWl hBl);have HFL:=hid (fun(X:World) (hf:Fr [] w X)=>hF.fr hf);have HW:=hid hW;have HB:=hid hB;have HCD:=hid (fun(X:World) (hf:Fr [] w X)=>ckD_all s b _ _ W Br n X (hF.fr hf).u hend (hW.at.fr hf) hWl (hB.at.fr hf) hBl);have HIW:=hid (fun(X:World) (hf:Fr [] w X) v (hv:slAt X v W)=>ints_same W v _ X hv (hW.at.fr hf) (by omega));have HIB:=hid (fun(X:World) (hf:Fr [] w X) v (hv:slAt X v Br)=>ints_same Br v _ X hv (hB.at.fr hf) (by omega));rw[hck]at HCD;have HTP:=hid T.p;have HTD:=hid T.d;obtain⟨nW,hnW⟩:∃nW,nW=W.length:=⟨_,rfl⟩;obtain⟨nB,hnB⟩:∃nB,nB=Br.length:=⟨_,rfl⟩;have HNW:=hid hnW;have HNB:=hid hnB;rw[←hnW]at HOb H51 HIW HCD hwb hWl ⊢;rw[←hnB]at HOb H51 HIB HCD hwb hBl ⊢;have HT:=hid T;clear hW hB hF hend hnW hnB hck T;go_enter Tryz.func14,Tryz.ntmps14;go_wp2_with fail;rw[←hwb];clear hwb;refine H51.out.mono ?_;rintro e w1 ⟨gW,cW,gB,cB,rfl,ownW,ownB,hgg,hf1⟩;obtain⟨w2,hw2⟩:∃w2,w2=w1.alloc (.cells #[.string s,.int .i64 b,.slice (some ⟨gW,0,none⟩) nW cW,.slice (some ⟨gB,0,none⟩) nB cB] 35):=⟨_,rfl⟩;have HF2:=hid (show Fr [] w w2 by rw[hw2];exact(HFb.out.trans hf1).alloc _);have HO1:=hid (show w2.heap[w.heap.size]?=some (.cells #[.string s,.int .i64 b,.slice aW nW cW0,.slice aB nB cB0] 35 (0,0)) by rw[hw2];exact obj_fr HOb.out (hf1.alloc _) List.not_mem_nil);have HO5:=hid (show w2.heap[w1.heap.size]?=some (.cells #[.string s,.int .i64 b,.slice (some ⟨gW,0,none⟩) nW cW,.slice (some ⟨gB,0,none⟩) nB cB] 35 (0,0)) by rw[hw2];exact obj_new w1 _)
 have HLW:=hid (show slAd w2 (.slice (some ⟨gW,0,none⟩) nW cW) W by
  have h:=owns_fr0 (w':=w2) ownW (by rw[hw2];exact(Fr.refl [] _).alloc _)
  rw[HNW.out]at h ⊢
  exact owns_sl h)
 have HLB:=hid (show slAd w2 (.slice (some ⟨gB,0,none⟩) nB cB) Br by
  have h:=owns_fr0 (w':=w2) ownB (by rw[hw2];exact(Fr.refl [] _).alloc _)
  rw[HNB.out]at h ⊢
  exact owns_sl h)
 have H52:=hid (newC_good #[.string s,.int .i64 b,.slice (some ⟨gW,0,none⟩) nW cW,.slice (some ⟨gB,0,none⟩) nB cB] s b (some ⟨gW,0,none⟩) (some ⟨gB,0,none⟩) nW cW nB cB w2 rfl Bd V X r Ls
  (fun w' hf=>HTP.out w' _ _ (HFL.out w' (HF2.out.trans hf)) (HLW.out.at.fr hf) (HLB.out.fr hf)))
 have HOW:=hid (show w2.ownsRow wb.heap.size 3 1 (.slice (some ⟨gW,0,none⟩) nW cW) nW (ints64 W) by rw[hw2];exact ownW.alloc _);have HOB:=hid (show w2.ownsRow wb.heap.size 3 1 (.slice (some ⟨gB,0,none⟩) nB cB) nB (ints64 Br) by rw[hw2];exact ownB.alloc _);have hgW:=owns_at ownW;have hgB:=owns_at ownB;have hwbs:w.heap.size<wb.heap.size:=obj_lt HOb.out;have hw2s:w2.heap.size=w1.heap.size+1:=by rw[hw2];simp
 have HWS:=hid hw2;have hw1:w.heap.size<w1.heap.size:=by have:=obj_lt HOb.out;have:=hf1.size;omega
 clear ownW ownB hf1 hw2;go_wp2_with fail;rw[←HWS.out];refine H52.out.mono ?_;rintro e w3 ⟨Q,P,v0,v1,v2,vL,hs3,rfl,hQ,hQ0,hLP,hf3⟩;have HQ:=hid hQ;have HLP:=hid hLP;have hQl:=obj_lt hQ;have HF3:=hid (HF2.out.trans hf3);have HO13:=hid (obj_fr HO1.out hf3 List.not_mem_nil);have HO53:=hid (obj_fr HO5.out hf3 List.not_mem_nil);have k2:=obj_cell HO13.out (i:=2) (v:=.slice aW nW cW0) rfl;have k3:=obj_cell HO13.out (i:=3) (v:=.slice aB nB cB0) rfl;have j2:=obj_cell HO53.out (i:=2) (v:=.slice (some ⟨gW,0,none⟩) nW cW) rfl;have j3:=obj_cell HO53.out (i:=3) (v:=.slice (some ⟨gB,0,none⟩) nB cB) rfl;have HLB3:=hid (HLB.out.at.fr hf3);have H12:=hid (HIW.out w3 HF3.out _ (HLW.out.at.fr hf3));have HOW3:=hid (owns_fr0 HOW.out hf3);have HOB3:=hid (owns_fr0 HOB.out hf3);have HG3:=hid hf3;clear hf3 H52 hQ hLP;go_wp2_with fail;refine H12.out.mono ?_;rintro e w4 ⟨rfl,hf4⟩;have HF4:=hid (HF3.out.trans hf4);have HO14:=hid (obj_fr HO13.out hf4 List.not_mem_nil);have HO54:=hid (obj_fr HO53.out hf4 List.not_mem_nil);have k3:=obj_cell HO14.out (i:=3) (v:=.slice aB nB cB0) rfl;have j3:=obj_cell HO54.out (i:=3) (v:=.slice (some ⟨gB,0,none⟩) nB cB) rfl;have H12b:=hid (HIB.out w4 HF4.out _ (HLB3.out.fr hf4));have HF34:=hid hf4;clear hf4 H12;go_wp2_with fail;refine H12b.out.mono ?_;rintro e w5 ⟨rfl,hf5⟩;have HF5:=hid (HF4.out.trans hf5);have HO15:=hid (obj_fr HO14.out hf5 List.not_mem_nil);have l0:=obj_cell HO15.out (i:=0) (v:=.string s) rfl;have l1:=obj_cell HO15.out (i:=1) (v:=.int .i64 b) rfl;have l2:=obj_cell HO15.out (i:=2) (v:=.slice aW nW cW0) rfl;have l3:=obj_cell HO15.out (i:=3) (v:=.slice aB nB cB0) rfl;have H53:=hid (HCD.out w5 HF5.out);have HF45:=hid hf5;clear hf5 H12b;go_wp2_with fail;refine H53.out.mono ?_;rintro e w6 ⟨rfl,hf6⟩;have HF6:=hid (HF5.out.trans hf6);have HG6:=hid (show Fr [] w3 w6 from(HF34.out.trans HF45.out).trans hf6);have HO16:=hid (obj_fr HO15.out hf6 List.not_mem_nil);have HO56:=hid (obj_fr HO53.out HG6.out List.not_mem_nil);have HOW6:=hid (owns_fr0 HOW3.out HG6.out);have HOB6:=hid (owns_fr0 HOB3.out HG6.out);have hz3:=HG3.out.size;have hz6:=HG6.out.size;clear hf6 H53;go_wp2_with fail;go_loopw [11] (fun a wr=>∃(i:Nat) (xs:List Value),a=.int .i64 i∧i≤nW∧Hid (wr.ownsRow wb.heap.size 3 1 (.slice (some ⟨gW,0,none⟩) nW cW) nW xs)∧Hid (Fr [gW] w6 wr)) (fun a _=>nW - (intOf a).toNat)
 case atStart=>exact⟨0,_,rfl,Nat.zero_le _,HOW6,hid (Fr.refl _ _)⟩
 case round =>
  obtain⟨i,xs,rfl,hin,HO,HFr⟩:=hrel;have HO5r:=hid (obj_fr HO56.out HFr.out (fun h=>by have:=List.mem_singleton.1 h;omega));have j2:=obj_cell HO5r.out (i:=2) (v:=.slice (some ⟨gW,0,none⟩) nW cW) rfl;by_cases hlt:i<nW
  ·have hiI:(i:Int)<(nW:Int):=by omega
   obtain⟨y,c1⟩:∃y,wr.cell? ⟨gW,i,none⟩=some y:=by
    rw[HO.out.cellAt i (by omega),List.getElem?_eq_getElem (by have:=HO.out.1;omega)];exact⟨_,rfl⟩
   have f1:=HO.out.frozenAt i;have HS:=hid (HO.out.stored i (.int .i64 7));have HG:=hid (HFr.out.trans (Fr.of_grown HS.out.2));have HS1:=hid HS.out.1;go_wp2;go_roundw
   case rel=>exact⟨i+1,_,by go_num,by omega,HS1,HG⟩
   case measure=>simp[intOf];omega
  ·have hiI:¬(i:Int)<(nW:Int):=by omega
   have HOB7:=hid (own_out HOB6.out HFr.out (fun h=>by have:=List.mem_singleton.1 h;omega));have HF7:=hid (show Fr [] w wr from HF6.out.behind HFr.out (fun k hk=>by rw[List.mem_singleton.1 hk];omega));go_wp2_with fail;obtain⟨w7,hw7⟩:∃w7,w7=wr:=⟨_,rfl⟩;rw[←hw7]at HOB7 HF7 HO5r HFr;have HW7:=hid hw7;rw[←HW7.out];clear hw7 j2;go_loopw [12] (fun a wr=>∃(i:Nat) (xs:List Value),a=.int .i64 i∧i≤nB∧Hid (wr.ownsRow wb.heap.size 3 1 (.slice (some ⟨gB,0,none⟩) nB cB) nB xs)∧Hid (Fr [gB] w7 wr)) (fun a _=>nB - (intOf a).toNat)
   case atStart=>exact⟨0,_,rfl,Nat.zero_le _,HOB7,hid (Fr.refl _ _)⟩
   case round =>
    obtain⟨i,xs,rfl,hin,HO,HFq⟩:=hrel;have HO5q:=hid (obj_fr HO5r.out HFq.out (fun h=>by have:=List.mem_singleton.1 h;omega));have j3:=obj_cell HO5q.out (i:=3) (v:=.slice (some ⟨gB,0,none⟩) nB cB) rfl;by_cases hlt:i<nB
    ·have hiI:(i:Int)<(nB:Int):=by omega
     obtain⟨y,c1⟩:∃y,wr.cell? ⟨gB,i,none⟩=some y:=by
      rw[HO.out.cellAt i (by omega),List.getElem?_eq_getElem (by have:=HO.out.1;omega)];exact⟨_,rfl⟩
     have f1:=HO.out.frozenAt i;have HS:=hid (HO.out.stored i (.int .i64 0));have HG:=hid (HFq.out.trans (Fr.of_grown HS.out.2));have HS1:=hid HS.out.1;go_wp2;go_roundw
     case rel=>exact⟨i+1,_,by go_num,by omega,HS1,HG⟩
     case measure=>simp[intOf];omega
    ·have hiI:¬(i:Int)<(nB:Int):=by omega
     have HF8:=hid (show Fr [] w wr from HF7.out.behind HFq.out (fun k hk=>by rw[List.mem_singleton.1 hk];omega));have HO18:=hid (obj_fr (obj_fr HO16.out HFr.out (fun h=>by have:=List.mem_singleton.1 h;omega)) HFq.out (fun h=>by have:=List.mem_singleton.1 h;omega));have HLP8:=hid (((HLP.out.fr HG6.out (fun k hk=>absurd hk List.not_mem_nil)).fr HFr.out (fun k hk=>by rw[List.mem_singleton.1 hk];omega)).fr HFq.out (fun k hk=>by rw[List.mem_singleton.1 hk];omega));have HQ8:=hid (obj_fr (obj_fr (obj_fr HQ.out HG6.out List.not_mem_nil) HFr.out (fun h=>by have:=List.mem_singleton.1 h;omega)) HFq.out (fun h=>by have:=List.mem_singleton.1 h;omega));have H54:=hid (HTD.out wr _ _ (HFL.out wr HF8.out) (HW.out.at.fr HF8.out) (HB.out.at.fr HF8.out));rw[←HNW.out,←HNB.out]at H54;have l0:=obj_cell HO18.out (i:=0) (v:=.string s) rfl;have l1:=obj_cell HO18.out (i:=1) (v:=.int .i64 b) rfl;have l2:=obj_cell HO18.out (i:=2) (v:=.slice aW nW cW0) rfl;have l3:=obj_cell HO18.out (i:=3) (v:=.slice aB nB cB0) rfl;go_wp2_with fail;refine H54.out.mono ?_;rintro e w9 ⟨lb,WB,vC,vM,hm,rfl,hLD,hlb,hf9⟩;have HLD:=hid hLD;have HF9:=hid hf9;clear hLD hf9 H54;go_wp2_with fail;go_ret3;exact⟨Q,lb,rfl,hid ⟨P,_,v0,v1,v2,vL,hs3,obj_fr HQ8.out HF9.out List.not_mem_nil,HLP8.out.fr HF9.out (fun k hk=>absurd hk List.not_mem_nil)⟩,hid ⟨WB,vC,vM,hm,HLD.out⟩,HF8.out.trans HF9.out⟩
theorem rises_lt {l:List Int}{z:Int}(h:Rises l z){i j:Nat}(hij:i<j)(hj:j<l.length):nth l i<nth l j:=by
 have:=List.pairwise_iff_getElem.1 h.sorted i j (by omega) hj hij;rw[nth,nth,List.getElem?_eq_getElem (show i<l.length by omega),List.getElem?_eq_getElem hj];exact this
theorem rises_inj {l:List Int}{z:Int}(h:Rises l z){i j:Nat}(hi:i<l.length)(hj:j<l.length)(e:nth l i=nth l j):i=j:=by
 rcases Nat.lt_trichotomy i j with h1 | h1 | h1
 ·have:=rises_lt h h1 hj;omega
 ·exact h1
 ·have:=rises_lt h h1 hi;omega
theorem cidx_of {l:List Int}{z:Int}(h:Rises l z){j:Nat}(hj:j<l.length):cidx l (nth l j)=j:=by
 have hm:l.contains (nth l j)=true:=by
  rw[List.contains_iff_mem,nth,List.getElem?_eq_getElem hj];exact List.getElem_mem _
 obtain⟨h1,h2⟩:=cidx_at h hm;rw[←nth_getD]at h2;exact rises_inj h h1 hj h2
structure Fine (Bd V:List Int)(z:Int)(Ls:List Ln):Prop where
 rs:Rises Bd z
 bd:Bd.length=V.length+1
 on:∀i,i<Ls.length→∀c∈(lnN Ls i).o,c<V.length∧Holds Ls (nth Bd c) i
 has:∀c,c<V.length→∃i,i<Ls.length∧c∈(lnN Ls i).o
 nd:∀i,i<Ls.length→(lnN Ls i).o.Nodup
 ne:0<V.length→∀i,i<Ls.length→0<(lnN Ls i).o.length
theorem lns_at {s:ByteArray}{n:Nat}{bs:Int}{W Br:List Int}{k j:Nat}(hj:j<k):lnN (lns s n bs W Br k) j=lnOf (Dec.pos s) (nix (bix s n)) (evOf s n bs Br) W (eiOf s n Br j) (eiOf s n Br (j+1)):=by
 rw[lnN,lns,List.getElem?_map,List.getElem?_range hj];rfl
theorem lnOf_mem {P ri:Nat→Nat}{Ev:Nat→Int}{W:List Int}{a b c:Nat}:c∈(lnOf P ri Ev W a b).o ↔ a≤c∧c<b:=by
 show c∈(ordD _ (b - a)).map _ ↔ _;rw[List.mem_map];constructor
 ·rintro ⟨t,ht,rfl⟩
  have:=ordD_lt _ _ t ht;omega
 ·intro h
  exact⟨c - a,(ordD_perm _ _).mem_iff.2 (List.mem_range.2 (by omega)),by omega⟩
theorem lnOf_nodup {P ri:Nat→Nat}{Ev:Nat→Int}{W:List Int}{a b:Nat}:(lnOf P ri Ev W a b).o.Nodup:=by
 show((ordD _ (b - a)).map _).Nodup;have h1:(ordD (fun t=>Ev (ri (a+t))) (b - a)).Nodup:=(ordD_perm _ _).nodup_iff.2 List.nodup_range;unfold List.Nodup at *;rw[List.pairwise_map];exact h1.imp (fun hne he=>hne (by omega))
theorem fine_pos {s:ByteArray}{n:Nat}(hend:Dec.Ends s n)(hn:0<n){bs:Int}{W Br:List Int}(E:Edges s n Br):Fine (bnd s n) (lvE s n bs Br) (s.size:Nat) (lns s n bs W Br (Br.length+1)):=by
 have hr:=rises_bnd hend;have hvl:(lvE s n bs Br).length=cn s n:=by rw[lvE,lvs_len,←cn_begs hn]
 have hbl:(bnd s n).length=cn s n+1:=by have:=(bix_len s n).2.1;rw[bnd_length hend];unfold cn;omega
 have hle:∀j,j≤Br.length+1→eiOf s n Br j≤cn s n:=E.le;have ht:∀j,j<Br.length+1→(lnN (lns s n bs W Br (Br.length+1)) j).t=nth (bnd s n) (eiOf s n Br (j+1)):=fun j hj=>by
  have:=hle (j+1) (by omega);rw[lns_at hj,bnd_nth hend (by rw[←bnd_length hend,hbl];omega)];rfl
 have hmo:∀i j,i<j→j≤Br.length+1→eiOf s n Br i<eiOf s n Br j:=E.mono;refine⟨hr,by omega,fun i hi c hc=>?_,fun c hc=>?_,fun i hi=>?_,fun _ i hi=>?_⟩
 ·rw[lns_len]at hi
  rw[lns_at hi,lnOf_mem]at hc;have h1:=hle (i+1) (by omega);refine⟨by omega,by rw[lns_len];exact hi,by rw[ht i hi];exact rises_lt hr hc.2 (by omega),fun j hj=>?_⟩;rw[ht j (by omega)];have h2:eiOf s n Br (j+1)≤eiOf s n Br i:=by
   rcases Nat.lt_or_eq_of_le (show j+1≤i from hj)with h | h
   ·exact Nat.le_of_lt (hmo _ _ h (by omega))
   ·rw[h];exact Nat.le_refl _
  rcases Nat.lt_or_eq_of_le (Nat.le_trans h2 hc.1)with h3 | h3
  ·have:=rises_lt hr h3 (by omega);omega
  ·rw[h3];omega
 ·rw[hvl]at hc
  have key:∀k,k≤Br.length+1→c<eiOf s n Br k→∃i,i<Br.length+1∧eiOf s n Br i≤c∧c<eiOf s n Br (i+1):=by
   intro k
   induction k with
   | zero=>intro _ h;rw[show eiOf s n Br 0=0 from E.e0]at h;omega
   | succ k ih =>
     intro hk h
     rcases Nat.lt_or_ge c (eiOf s n Br k)with h1 | h1
     ·exact ih (by omega) h1
     ·exact⟨k,by omega,h1,h⟩
  obtain⟨i,hi,h1,h2⟩:=key (Br.length+1) (Nat.le_refl _) (by rw[show eiOf s n Br (Br.length+1)=cn s n from E.eN];exact hc);exact⟨i,by rw[lns_len];exact hi,by rw[lns_at hi,lnOf_mem];exact⟨h1,h2⟩⟩
 ·rw[lns_len]at hi
  rw[lns_at hi];exact lnOf_nodup
 ·rw[lns_len]at hi
  rw[lns_at hi];exact List.length_pos_of_mem (lnOf_mem.2 ⟨Nat.le_refl _,hmo i (i+1) (by omega) (by omega)⟩)
theorem fine_nil:Fine [0] [] 0 [ln0]:=by
 refine⟨⟨by simp,rfl,rfl⟩,rfl,fun i hi c hc=>?_,fun c hc=>absurd hc (Nat.not_lt_zero _),fun i hi=>?_,fun h=>absurd h (Nat.lt_irrefl 0)⟩
 ·obtain rfl:i=0:=by simpa using hi
  exact absurd hc List.not_mem_nil
 ·obtain rfl:i=0:=by simpa using hi
  exact List.nodup_nil
theorem twin_all (s:ByteArray)(b:Int)(W Br:List Int)(n:Nat)(hend:Dec.Ends s n)(hBl:Br.length≤5000)(hck:chk s n (clsOf s n) b W Br=0):∃Bd V X r bs Cs Ls,Twin s b W Br Bd V X r bs Cs Ls∧Tame Bd V Ls∧Fine Bd V (s.size:Nat) Ls∧Bd=bnd s n∧r=1 - 2 * bs∧(bs=0∨bs=1):=by
 obtain⟨hs,hb⟩:=chk_zero' hck;obtain⟨hWl,hw,hbr⟩:=chk_zero hend hs hb hck;by_cases hn:0<n
 ·have hE:=edges_ok hend hn Br hbr
  have hn4:n≤400:=by have:=Dec.le_pos s n;have:=hend.1;omega
  have hcn:cn s n≤400:=by have:=bix_len s n;unfold cn;omega
  have hB4:Br.length+1≤400:=by
   have h1:=ei_ge hE (Br.length+1) (Nat.le_refl _);have h2:=hE.le (Br.length+1) (Nat.le_refl _);unfold eiOf at h1;omega
  have hvl:(lvE s n (baseOf (Kl s n) b) Br).length=cn s n:=by rw[lvE,lvs_len,←cn_begs hn]
  have hWB:∀i,0≤nth W i∧nth W i≤1073741824:=fun i=>by
   by_cases hi:i<n
   ·exact wOk_at hw hi
   ·rw[nth_over (by omega)];decide
  refine⟨bnd s n,lvE s n (baseOf (Kl s n) b) Br,wl s W n,1 - 2 * baseOf (Kl s n) b,baseOf (Kl s n) b,clst (Dec.pos s) (nix (bix s n)) (evOf s n (baseOf (Kl s n) b) Br) W (cn s n),lns s n (baseOf (Kl s n) b) W Br (Br.length+1),?_,tame_pos hn hn4 (base_01 hb) hWB hE hcn,fine_pos hend hn hE,rfl,rfl,base_01 hb⟩
  exact {
   vx:=by rw[hvl,wl_len,←cn_begs hn]
   bd:=by have:=(bix_len s n).2.1;rw[hvl,bnd_length hend];unfold cn;omega
   vl:=by rw[hvl];exact hcn
   cs:=by rw[hvl];exact cls_same hend hn (base_01 hb) W Br
   l0:=by rw[lns_len];omega
   l1:=by rw[lns_len];exact hB4
   ll:=lns_small hE hcn _ W
   p:=fun w vW vB hF h1 h2=>newP_pos s b vW vB W Br n w hs hb hF hend hn h1 h2 hBl hck
   d:=fun w vW vB hF h1 h2=>newD_pos s b vW vB W Br n w hs hb hF.u hend hn h1 hWl hw h2 (by omega) hbr }
 ·obtain rfl:n=0:=by omega
  have hs0:s.size=0:=hend.1.symm;have hbr0:=br_nil hs0 hbr;subst hbr0;refine⟨[0],[],[],1 - 2 * baseOf [] b,baseOf [] b,[],[ln0],?_,tame_nil,by rw[hs0];exact fine_nil,by simp[bnd,hs0,bndTo],rfl,base_01 hb⟩
  exact {
   vx:=rfl
   bd:=rfl
   vl:=by decide
   cs:=rfl
   l0:=by decide
   l1:=by decide
   ll:=fun l hl=>by rw[List.mem_singleton.1 hl];decide
   p:=fun w vW vB hF h1 h2=>newP_nil s b vW vB W [] w hs0 hb hF h1 h2 hck
   d:=fun w vW vB hF h1 h2=>by
    obtain⟨aB,cB,rfl,_⟩:=h2
    exact newD_nil s b vW aB cB w hs0 hb hF.u }
end Go.Proofs.YtnakejhohdbfdaaGreatDoor

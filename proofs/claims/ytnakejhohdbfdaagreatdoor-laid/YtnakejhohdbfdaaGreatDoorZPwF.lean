import Derived.Test.YtnakejhohdbfdaaGreatDoorZPwJ
import Derived.Test.YtnakejhohdbfdaaGreatDoorZLdG
import Derived.Test.YtnakejhohdbfdaaGreatDoorZLdB
import Derived.Test.YtnakejhohdbfdaaGreatDoorZDecLaw
namespace Go.Proofs.YtnakejhohdbfdaaGreatDoor
open Go.RowKit Lev Lay
set_option maxRecDepth 10000 in
theorem ints_drew (l:List Int) (va vb:Value) (w:World) (ha:slAt w va l) (hb:slAt w vb l) (hl:l.length ≤ 100000) :
 Calls Tryz.prog 12 #[va,vb] w fun e w'=>e=.returned (.bool true)∧∃ q,w'=w.drewN q:=by
 obtain ⟨a,ca,rfl,ha⟩:=ha
 obtain ⟨b,cb,rfl,hb⟩:=hb
 obtain ⟨n,hn⟩:∃ n,n=l.length:=⟨_,rfl⟩
 rw [← hn] at ha hb hl ⊢
 have HA:=hid ha
 have HB:=hid hb
 clear ha hb hn
 go_enter Tryz.func12,Tryz.ntmps12
 go_wp2
 go_loopw [5] (fun v wr=>∃ i:Nat,v=.int .i64 i∧i ≤ n∧Hid (∃ q,wr=w.drewN q)) (fun v _=>n - (intOf v).toNat)
 case atStart=>exact ⟨0,rfl,Nat.zero_le _,hid ⟨0,rfl⟩⟩
 case round =>
  obtain ⟨i,rfl,hin,HQ⟩:=hrel
  have HF:=hid (show Fr [] w wr by obtain ⟨q,h⟩:=HQ.out;rw [h];exact fr_drewN w q)
  by_cases hlt:i < n
  ·have hiI:(i:Int) < (n:Int):=by omega
   obtain ⟨ga,oa,rfl,ra⟩:=HA.out.resolve_left (by omega)
   obtain ⟨gb,ob,rfl,rb⟩:=HB.out.resolve_left (by omega)
   have c1:=HF.out.cell (ra i hlt) List.not_mem_nil
   have c2:=HF.out.cell (rb i hlt) List.not_mem_nil
   generalize nth l i=y at *
   clear ra rb
   go_wp2
   go_quiet (fail)
   go_wp2
   go_roundw
   case rel=>exact ⟨i + 1,by go_num,by omega,hid (by obtain ⟨q,h⟩:=HQ.out;exact ⟨q + nq,by rw [h,World.drewN_drewN]⟩)⟩
   case measure=>simp [intOf];omega
  ·have hiI:¬ (i:Int) < (n:Int):=by omega
   go_wp2
   go_ret
   exact ⟨rfl,HQ.out⟩
theorem ints_same (l:List Int) (va vb:Value) (w:World) (ha:slAt w va l) (hb:slAt w vb l) (hl:l.length ≤ 100000) :
 Calls Tryz.prog 12 #[va,vb] w fun e w'=>e=.returned (.bool true)∧Fr [] w w' :=
 (ints_drew l va vb w ha hb hl).mono (fun _ _ h=>⟨h.1,by obtain ⟨q,e⟩:=h.2;rw [e];exact fr_drewN w q⟩)
theorem owns_slN {w:World} {B n:Nat} {v:Value} {o:List Nat} (h:w.ownsRow B 3 1 v n (intsN o)) (hn:n=o.length):slAt w v (o.map (fun k=>((k:Nat):Int))):=by
 subst hn
 rcases h.2 with ⟨rfl,h0⟩ | ⟨g,c,cur,rfl,_⟩
 ·exact ⟨none,0,by rw [List.length_map,h0],.inl (by rw [List.length_map,h0])⟩
 ·refine ⟨some ⟨g,0,none⟩,c,by rw [List.length_map],.inr ⟨g,0,rfl,fun i hi=>?_⟩⟩
  rw [List.length_map] at hi
  have h2:=owns_rowN h rfl i hi
  rw [Nat.zero_add,h2]
  simp [nth,nix,hi]
theorem fit_yes (s:ByteArray) (b:Int) (aW aB:Option Addr) (nW cW nB cB:Nat) (w:World) (h1:s.size ≤ 4096) (h2:nW ≤ 4096) (h3:nB ≤ 4096) :
 Calls Tryz.prog 13 #[.agg #[.string s,.int .i64 b,.slice aW nW cW,.slice aB nB cB]] w fun e w'=>e=.returned (.bool true)∧Fr [] w w':=by
 have h1':(s.size:Int) ≤ 4096:=by omega
 have h2':(nW:Int) ≤ 4096:=by omega
 have h3':(nB:Int) ≤ 4096:=by omega
 go_enter Tryz.func13,Tryz.ntmps13
 go_wp2
 go_ret
 exact ⟨rfl,(Fr.refl [] w).alloc _⟩
theorem fit_no (s:ByteArray) (b:Int) (aW aB:Option Addr) (nW cW nB cB:Nat) (w:World) (h:¬ (s.size ≤ 4096∧nW ≤ 4096∧nB ≤ 4096)) :
 Calls Tryz.prog 13 #[.agg #[.string s,.int .i64 b,.slice aW nW cW,.slice aB nB cB]] w fun e w'=>e=.returned (.bool false)∧Fr [] w w':=by
 by_cases h1:s.size ≤ 4096
 ·have h1':(s.size:Int) ≤ 4096:=by omega
  by_cases h2:nW ≤ 4096
  ·have h2':(nW:Int) ≤ 4096:=by omega
   have h3':¬ (nB:Int) ≤ 4096:=by omega
   have h4:decide ((nB:Int) ≤ 4096)=false:=by simp;omega
   clear h
   go_enter Tryz.func13,Tryz.ntmps13
   go_wp2
   go_ret
   exact ⟨rfl,(Fr.refl [] w).alloc _⟩
  ·have h2':¬ (nW:Int) ≤ 4096:=by omega
   have h4:decide ((nW:Int) ≤ 4096)=false:=by simp;omega
   clear h
   go_enter Tryz.func13,Tryz.ntmps13
   go_wp2
   go_ret
   exact ⟨rfl,(Fr.refl [] w).alloc _⟩
 ·have h1':¬ (s.size:Int) ≤ 4096:=by omega
  have h4:decide ((s.size:Int) ≤ 4096)=false:=by simp;omega
  clear h
  go_enter Tryz.func13,Tryz.ntmps13
  go_wp2
  go_ret
  exact ⟨rfl,(Fr.refl [] w).alloc _⟩
theorem lay_clusters (Q P:Nat) (w:World) (hq:w.cell? ⟨Q,0,none⟩=some (.pointer (some ⟨P,0,none⟩))) (R:Value→World→Prop) (h:Calls Tryz.prog 55 #[.pointer (some ⟨P,0,none⟩)] w fun e w'=>∃ v,e=.returned v∧R v w') :
 Calls Tryz.prog 15 #[.pointer (some ⟨Q,0,none⟩)] w fun e w'=>∃ v,e=.returned v∧R v w':=by
 have H:=hid h
 clear h
 go_enter Tryz.func15,Tryz.ntmps15
 go_wp2_with fail
 refine H.out.mono ?_
 rintro e w1 ⟨v,rfl,hr⟩
 have HR:=hid hr
 clear hr
 go_wp2
 go_ret
 exact ⟨_,rfl,HR.out⟩
theorem lay_lines (Q P:Nat) (w:World) (hq:w.cell? ⟨Q,0,none⟩=some (.pointer (some ⟨P,0,none⟩))) (R:Value→World→Prop) (h:Calls Tryz.prog 56 #[.pointer (some ⟨P,0,none⟩)] w fun e w'=>∃ v,e=.returned v∧R v w') :
 Calls Tryz.prog 16 #[.pointer (some ⟨Q,0,none⟩)] w fun e w'=>∃ v,e=.returned v∧R v w':=by
 have H:=hid h
 clear h
 go_enter Tryz.func16,Tryz.ntmps16
 go_wp2_with fail
 refine H.out.mono ?_
 rintro e w1 ⟨v,rfl,hr⟩
 have HR:=hid hr
 clear hr
 go_wp2
 go_ret
 exact ⟨_,rfl,HR.out⟩
end Go.Proofs.YtnakejhohdbfdaaGreatDoor
namespace Go.Proofs.YtnakejhohdbfdaaGreatDoor
open Go.RowKit Lev Lay Bnd
theorem own_out {S:List Nat} {w w':World} {B e size n g c:Nat} {xs:List Value} (h:w.ownsRow B e size (.slice (some ⟨g,0,none⟩) n c) n xs) (hf:Fr S w w') (hg:g ∉ S):w'.ownsRow B e size (.slice (some ⟨g,0,none⟩) n c) n xs :=
 owns_fr h hf (fun k hk=>by cases hk;exact hg)
theorem append_ad {w:World} {ops:Array Oper} {rest:List Oper} {o:Oper} {a:Act} {Q:Exit→Act→World→Prop} (hgd:o.guard=none) (s x:Operand)
 (ho:o.op=.call { callee:=.builtin .append,args:=#[s,x],argTypes:=#[22,22] }) (base g0 n c0:Nat) (xs:List Value) (hs:a.eval s=.slice (some ⟨g0,0,none⟩) n c0) (hown:w.ownsRow base 3 1 (.slice (some ⟨g0,0,none⟩) n c0) n xs)
 (l:List Int) (vx:Value) (hx:a.eval x=vx) (hl:slAd w vx l) (hnl:n + l.length ≤ 100000) (hbase:base ≤ w.heap.size)
 (h:∀ g c w',w'.ownsRow base 3 1 (.slice (some ⟨g,0,none⟩) (n + l.length) c) (n + l.length) (xs ++ ints64 l)→Fr [g0] w w'→wpList Tryz.prog ops Q rest (a.put o.dst (.slice (some ⟨g,0,none⟩) (n + l.length) c)) w'):wpList Tryz.prog ops Q (o :: rest) a w:=by
 obtain ⟨i3,hi3,hz30,hz31,hz32⟩:=info_parts info3
 obtain ⟨ax,cx,rfl,hl⟩:=hl
 rcases hl with ⟨rfl,rfl,h0⟩ | ⟨ad,rfl,hc⟩
 ·have hln:l=[]:=List.length_eq_zero_iff.1 h0
  subst hln
  refine wpList_append_own_none hgd s x 22 ho base 3 i3 1 Tryz.underlying22 hi3 _ n xs hs hown hx ?_
  have h2:=h g0 c0 w
  simp only [List.length_nil,Nat.add_zero] at h2
  exact h2 (by simpa using hown) (Fr.refl _ _)
 ·refine wpList_append_own _ hgd s x 22 ho base 3 i3 _ 1 8 Tryz.underlying22 hi3 hz30 hz31 hz32 rfl (by decide) _ n xs hs hown ad l.length cx (ints64 l) hx (by simp) (fun j u hu=>?_) (ints64_one _) (by unfold maxLen;omega) (by omega) hbase ?_
  ·have hj:j < l.length:=by have:=(List.getElem?_eq_some_iff.1 hu).1;simpa using this
   rw [ints64_at hj] at hu
   rw [hc j hj];exact hu
  ·intro v' w' hown' hg hnil
   rcases hown'.2 with ⟨h5,_⟩ | ⟨g',c',cur,rfl,_⟩
   ·exact absurd (hnil.1 h5).1 (by simp)
   ·exact h g' c' w' hown' (Fr.of_grown hg)
set_option maxRecDepth 10000 in
set_option maxHeartbeats 2000000 in
theorem copied_any (s:ByteArray) (b:Int) (vW vB:Value) (W Br:List Int) (w:World) (hW:slAd w vW W) (hB:slAd w vB Br) (hWl:W.length ≤ 5000) (hBl:Br.length ≤ 5000) :
 Calls Tryz.prog 51 #[.agg #[.string s,.int .i64 b,vW,vB]] w fun e w'=>∃ gW cW gB cB,e=.returned (.agg #[.string s,.int .i64 b,.slice (some ⟨gW,0,none⟩) W.length cW,.slice (some ⟨gB,0,none⟩) Br.length cB]) ∧
  w'.ownsRow w.heap.size 3 1 (.slice (some ⟨gW,0,none⟩) W.length cW) W.length (ints64 W)∧w'.ownsRow w.heap.size 3 1 (.slice (some ⟨gB,0,none⟩) Br.length cB) Br.length (ints64 Br)∧gW < gB∧Fr [] w w':=by
 obtain ⟨aW,cW0,rfl,_⟩:=id hW
 obtain ⟨aB,cB0,rfl,_⟩:=id hB
 have HW:=hid hW
 have HB:=hid hB
 obtain ⟨nW,hnW⟩:∃ nW,nW=W.length:=⟨_,rfl⟩
 obtain ⟨nB,hnB⟩:∃ nB,nB=Br.length:=⟨_,rfl⟩
 have HNW:=hid hnW
 have HNB:=hid hnB
 rw [← hnW] at hWl ⊢
 rw [← hnB] at hBl ⊢
 clear hW hB hnW hnB
 obtain ⟨w2,hw2⟩:∃ w2,w2=((w.alloc (.cells #[.string s,.int .i64 b,.slice aW nW cW0,.slice aB nB cB0] 35)).alloc (.cells #[.string ⟨#[]⟩,.int .i64 0,.slice none 0 0,.slice none 0 0] 35)).alloc (.cells #[] 3):=⟨_,rfl⟩
 have HF2:=hid (show Fr [] w w2 by rw [hw2];exact (((Fr.refl [] w).alloc _).alloc _).alloc _)
 have HA2:=hid (show w2.heap[w.heap.size]?=some (.cells #[.string s,.int .i64 b,.slice aW nW cW0,.slice aB nB cB0] 35 (0,0)) by rw [hw2];exact obj_fr (obj_new w _) (((Fr.refl [] _).alloc _).alloc _) List.not_mem_nil)
 have HZ2:=hid (show w2.heap[w.heap.size + 1]?=some (.cells #[.string ⟨#[]⟩,.int .i64 0,.slice none 0 0,.slice none 0 0] 35 (0,0)) by
  have h:=obj_fr (obj_new (w.alloc (.cells #[.string s,.int .i64 b,.slice aW nW cW0,.slice aB nB cB0] 35)) (.cells #[.string ⟨#[]⟩,.int .i64 0,.slice none 0 0,.slice none 0 0] 35)) ((Fr.refl [] _).alloc (.cells #[] 3)) List.not_mem_nil
  rw [← hw2] at h;simpa using h)
 have HE2:=hid (show w2.heap[w.heap.size + 1 + 1]?=some (.cells #[] 3 (0,0)) by
  have h:=obj_new ((w.alloc (.cells #[.string s,.int .i64 b,.slice aW nW cW0,.slice aB nB cB0] 35)).alloc (.cells #[.string ⟨#[]⟩,.int .i64 0,.slice none 0 0,.slice none 0 0] 35)) (.cells #[] 3)
  rw [← hw2] at h;simpa using h)
 have hz2:w2.heap.size=w.heap.size + 3:=by rw [hw2];simp
 have HW2:=hid hw2
 clear hw2
 go_enter Tryz.func51,Tryz.ntmps51
 go_wp2_with (at_builtin;refine append_ad rfl _ _ rfl (w.heap.size + 1 + 1) _ _ _ [] rfl ?own W _ rfl ?sl ?len ?le ?_)
 case own=>rw [← HW2.out];exact ⟨rfl,.inr ⟨_,0,#[],rfl,by omega,HE2.out,Nat.le_refl _,Nat.zero_le _,rfl,rfl⟩⟩
 case sl =>
  rw [← HW2.out]
  have h:=HW.out.fr HF2.out
  rw [← HNW.out] at h
  exact h
 case len=>rw [← HNW.out];omega
 case le=>rw [← HW2.out];omega
 rw [← HW2.out]
 intro gW cW w3 own3 hf3
 rw [← HNW.out] at own3
 rw [← HNW.out]
 have hgW:=owns_at own3
 have HO3:=hid own3
 have HF3:=hid hf3
 have HA3:=hid (obj_fr HA2.out hf3 (fun h=>by have:=List.mem_singleton.1 h;omega))
 have HZ3:=hid (obj_fr HZ2.out hf3 (fun h=>by have:=List.mem_singleton.1 h;omega))
 have hz3:=hf3.size
 have k2:=obj_cell HA3.out (i:=2) (v:=.slice aW nW cW0) rfl
 have k3:=obj_cell HA3.out (i:=3) (v:=.slice aB nB cB0) rfl
 have f2:=obj_froz HA3.out 2
 have f3:=obj_froz HA3.out 3
 have hlt3:w.heap.size < w3.heap.size:=by omega
 clear own3 hf3
 obtain ⟨w4,hw4⟩:∃ w4,w4=(w3.setCell ⟨w.heap.size,2,none⟩ (.slice (some ⟨gW,0,none⟩) nW cW)).alloc (.cells #[] 3):=⟨_,rfl⟩
 have HF4:=hid (show Fr [w.heap.size] w3 w4 by rw [hw4];exact (fr_set1 _ _ _ _).alloc _)
 have HA4:=hid (show w4.heap[w.heap.size]?=some (.cells #[.string s,.int .i64 b,.slice (some ⟨gW,0,none⟩) nW cW,.slice aB nB cB0] 35 (0,0)) by rw [hw4];exact obj_fr (obj_set HA3.out 2 _) ((Fr.refl [] _).alloc _) List.not_mem_nil)
 have hz4:w4.heap.size=w3.heap.size + 1:=by rw [hw4];simp
 have HE4:=hid (show w4.heap[w3.heap.size]?=some (.cells #[] 3 (0,0)) by
  have h:=obj_new (w3.setCell ⟨w.heap.size,2,none⟩ (.slice (some ⟨gW,0,none⟩) nW cW)) (.cells #[] 3)
  rw [← hw4] at h;simpa using h)
 have HW4:=hid hw4
 clear hw4
 have HFw4:=hid (show Fr [] w w4 from (HF2.out.behind HF3.out (fun k hk=>by rw [List.mem_singleton.1 hk];omega)).behind HF4.out (fun k hk=>by rw [List.mem_singleton.1 hk];exact Nat.le_refl _))
 go_wp2_with (at_builtin;refine append_ad rfl _ _ rfl w3.heap.size _ _ _ [] rfl ?own Br _ rfl ?sl ?len ?le ?_)
 case own=>rw [← HW4.out];exact ⟨rfl,.inr ⟨_,0,#[],rfl,Nat.le_refl _,HE4.out,Nat.le_refl _,Nat.zero_le _,rfl,rfl⟩⟩
 case sl =>
  rw [← HW4.out]
  have h:=HB.out.fr HFw4.out
  rw [← HNB.out] at h
  exact h
 case len=>rw [← HNB.out];omega
 case le=>rw [← HW4.out];omega
 rw [← HW4.out]
 intro gB cB w5 own5 hf5
 rw [← HNB.out] at own5
 rw [← HNB.out]
 have hgB:=owns_at own5
 have HO5:=hid own5
 have HF5:=hid hf5
 have HFw5:=hid (show Fr [] w w5 from HFw4.out.behind hf5 (fun k hk=>by rw [List.mem_singleton.1 hk];omega))
 have HA5:=hid (obj_fr HA4.out hf5 (fun h=>by have:=List.mem_singleton.1 h;omega))
 have HZ5:=hid (obj_fr (obj_fr HZ3.out HF4.out (fun h=>by have:=List.mem_singleton.1 h;omega)) hf5 (fun h=>by have:=List.mem_singleton.1 h;omega))
 have HO35:=hid (own_out (own_out HO3.out HF4.out (fun h=>by have:=List.mem_singleton.1 h;omega)) hf5 (fun h=>by have:=List.mem_singleton.1 h;omega))
 clear own5 hf5 k2 k3 f2 f3
 have k0:=obj_cell HA5.out (i:=0) (v:=.string s) rfl
 have k1:=obj_cell HA5.out (i:=1) (v:=.int .i64 b) rfl
 have k2:=obj_cell HA5.out (i:=2) (v:=.slice (some ⟨gW,0,none⟩) nW cW) rfl
 have k3:=obj_cell HA5.out (i:=3) (v:=.slice aB nB cB0) rfl
 have f3:=obj_froz HA5.out 3
 have z0:=obj_cell HZ5.out (i:=0) (v:=.string ⟨#[]⟩) rfl
 have z1:=obj_cell HZ5.out (i:=1) (v:=.int .i64 0) rfl
 have z2:=obj_cell HZ5.out (i:=2) (v:=.slice none 0 0) rfl
 have z3:=obj_cell HZ5.out (i:=3) (v:=.slice none 0 0) rfl
 have y0:=obj_froz HZ5.out 0
 have y1:=obj_froz HZ5.out 1
 have y2:=obj_froz HZ5.out 2
 have y3:=obj_froz HZ5.out 3
 obtain ⟨w6,hw6⟩:∃ w6,w6=w5.setCell ⟨w.heap.size,3,none⟩ (.slice (some ⟨gB,0,none⟩) nB cB):=⟨_,rfl⟩
 have HF6:=hid (show Fr [w.heap.size] w5 w6 by rw [hw6];exact fr_set1 _ _ _ _)
 have HZ6:=hid (obj_fr HZ5.out HF6.out (fun h=>by have:=List.mem_singleton.1 h;omega))
 obtain ⟨w7,hw7⟩:∃ w7,w7=(((w6.setCell ⟨w.heap.size + 1,0,none⟩ (.string s)).setCell ⟨w.heap.size + 1,1,none⟩ (.int .i64 b)).setCell ⟨w.heap.size + 1,2,none⟩ (.slice (some ⟨gW,0,none⟩) nW cW)).setCell ⟨w.heap.size + 1,3,none⟩ (.slice (some ⟨gB,0,none⟩) nB cB):=⟨_,rfl⟩
 have HZ7:=hid (show w7.heap[w.heap.size + 1]?=some (.cells #[.string s,.int .i64 b,.slice (some ⟨gW,0,none⟩) nW cW,.slice (some ⟨gB,0,none⟩) nB cB] 35 (0,0)) by rw [hw7];exact obj_set (obj_set (obj_set (obj_set HZ6.out 0 _) 1 _) 2 _) 3 _)
 have HF7:=hid (show Fr [w.heap.size + 1] w6 w7 by rw [hw7];exact (((fr_set1 _ _ _ _).set (List.mem_singleton.2 rfl) _).set (List.mem_singleton.2 rfl) _).set (List.mem_singleton.2 rfl) _)
 have HW6:=hid hw6
 have HW7:=hid hw7
 clear hw6 hw7
 go_wp2_with fail
 rw [← HW6.out,← HW7.out]
 refine bodyPost_ret (results_cell_row (t:=35) (fr:=(0,0)) rfl _ _ (w.heap.size + 1) _ _ rfl HZ7.out Tryz.underlying35 rfl (by kernel_rfl)) rfl ?_
 refine ⟨gW,cW,gB,cB,rfl,?_,?_,by omega,?_⟩
 ·exact owns_low (own_out (own_out HO35.out HF6.out (fun h=>by have:=List.mem_singleton.1 h;omega)) HF7.out (fun h=>by have:=List.mem_singleton.1 h;omega)) (by omega)
 ·exact owns_low (own_out (own_out HO5.out HF6.out (fun h=>by have:=List.mem_singleton.1 h;omega)) HF7.out (fun h=>by have:=List.mem_singleton.1 h;omega)) (by omega)
 ·exact (HFw5.out.behind HF6.out (fun k hk=>by rw [List.mem_singleton.1 hk];exact Nat.le_refl _)).behind HF7.out (fun k hk=>by rw [List.mem_singleton.1 hk];omega)
end Go.Proofs.YtnakejhohdbfdaaGreatDoor
namespace Go.Proofs.YtnakejhohdbfdaaGreatDoor
open Go.RowKit Lev Lay Bnd
theorem owns_sl {w:World} {B g c:Nat} {l:List Int} (h:w.ownsRow B 3 1 (.slice (some ⟨g,0,none⟩) l.length c) l.length (ints64 l)):slAd w (.slice (some ⟨g,0,none⟩) l.length c) l :=
 ⟨_,_,rfl,.inr ⟨_,rfl,fun i hi=>by
  rw [Addr.add_lit,Nat.zero_add,h.cellAt i (by omega),ints64_at hi]⟩⟩
set_option maxRecDepth 10000 in
set_option maxHeartbeats 2000000 in
theorem made_bad (s:ByteArray) (b:Int) (vW vB:Value) (W Br:List Int) (n:Nat) (w:World) (hF:Floor w) (hend:Dec.Ends s n) (hW:slAd w vW W) (hB:slAd w vB Br) (hWl:W.length ≤ 5000) (hBl:Br.length ≤ 5000) (hck:chk s n (clsOf s n) b W Br ≠ 0) :
 Calls Tryz.prog 14 #[.agg #[.string s,.int .i64 b,vW,vB]] w fun e w'=>e=.returned (.tuple #[.pointer none,.pointer none,.bool true])∧Fr [] w w':=by
 obtain ⟨aW,cW0,rfl,_⟩:=id hW
 obtain ⟨aB,cB0,rfl,_⟩:=id hB
 obtain ⟨x,hx⟩:∃ x,x=chk s n (clsOf s n) b W Br:=⟨_,rfl⟩
 obtain ⟨wb,hwb⟩:∃ wb,wb=w.alloc (.cells #[.string s,.int .i64 b,.slice aW W.length cW0,.slice aB Br.length cB0] 35):=⟨_,rfl⟩
 have HFb:=hid (show Fr [] w wb by rw [hwb];exact (Fr.refl [] w).alloc _)
 have HOb:=hid (show wb.heap[w.heap.size]?=some (.cells #[.string s,.int .i64 b,.slice aW W.length cW0,.slice aB Br.length cB0] 35 (0,0)) by rw [hwb];exact obj_new w _)
 have H51:=hid (copied_any s b _ _ W Br wb (hW.fr HFb.out) (hB.fr HFb.out) hWl hBl)
 have HFL:=hid (fun (X:World) (hf:Fr [] w X)=>hF.fr hf)
 have HW:=hid hW
 have HB:=hid hB
 have HCP:=hid (fun (X:World) (hf:Fr [] w X) vW vB hW hB=>ckP_all s b vW vB W Br n X (hF.fr hf) hend hW hWl hB hBl)
 have HCD:=hid (fun (X:World) (hf:Fr [] w X)=>ckD_all s b _ _ W Br n X (hF.fr hf).u hend (hW.at.fr hf) hWl (hB.at.fr hf) hBl)
 have HIW:=hid (fun (X:World) (hf:Fr [] w X) v (hv:slAt X v W)=>ints_same W v _ X hv (hW.at.fr hf) (by omega))
 have HIB:=hid (fun (X:World) (hf:Fr [] w X) v (hv:slAt X v Br)=>ints_same Br v _ X hv (hB.at.fr hf) (by omega))
 rw [← hx] at HCP HCD hck
 obtain ⟨nW,hnW⟩:∃ nW,nW=W.length:=⟨_,rfl⟩
 obtain ⟨nB,hnB⟩:∃ nB,nB=Br.length:=⟨_,rfl⟩
 have HNW:=hid hnW
 have HNB:=hid hnB
 rw [← hnW] at HOb H51 HIW HCD hwb hWl ⊢
 rw [← hnB] at HOb H51 HIB HCD hwb hBl ⊢
 have HX:=hid hck
 have hx2:(x == 0)=false:=by simp [hck]
 have hx3:(x != 0)=true:=by simp [hck]
 clear hW hB hF hx hend hnW hnB
 go_enter Tryz.func14,Tryz.ntmps14
 go_wp2_with fail
 rw [← hwb]
 clear hwb
 refine H51.out.mono ?_
 rintro e w1 ⟨gW,cW,gB,cB,rfl,ownW,ownB,hgg,hf1⟩
 obtain ⟨w2,hw2⟩:∃ w2,w2=w1.alloc (.cells #[.string s,.int .i64 b,.slice (some ⟨gW,0,none⟩) nW cW,.slice (some ⟨gB,0,none⟩) nB cB] 35):=⟨_,rfl⟩
 have HF2:=hid (show Fr [] w w2 by rw [hw2];exact (HFb.out.trans hf1).alloc _)
 have HO1:=hid (show w2.heap[w.heap.size]?=some (.cells #[.string s,.int .i64 b,.slice aW nW cW0,.slice aB nB cB0] 35 (0,0)) by rw [hw2];exact obj_fr HOb.out (hf1.alloc _) List.not_mem_nil)
 have HO5:=hid (show w2.heap[w1.heap.size]?=some (.cells #[.string s,.int .i64 b,.slice (some ⟨gW,0,none⟩) nW cW,.slice (some ⟨gB,0,none⟩) nB cB] 35 (0,0)) by rw [hw2];exact obj_new w1 _)
 have HLW:=hid (show slAd w2 (.slice (some ⟨gW,0,none⟩) nW cW) W by
  have h:=owns_fr0 (w':=w2) ownW (by rw [hw2];exact (Fr.refl [] _).alloc _)
  rw [HNW.out] at h ⊢
  exact owns_sl h)
 have HLB:=hid (show slAd w2 (.slice (some ⟨gB,0,none⟩) nB cB) Br by
  have h:=owns_fr0 (w':=w2) ownB (by rw [hw2];exact (Fr.refl [] _).alloc _)
  rw [HNB.out] at h ⊢
  exact owns_sl h)
 have H52:=hid (newC_bad #[.string s,.int .i64 b,.slice (some ⟨gW,0,none⟩) nW cW,.slice (some ⟨gB,0,none⟩) nB cB] s b x (some ⟨gW,0,none⟩) (some ⟨gB,0,none⟩) nW cW nB cB w2 (HFL.out w2 HF2.out) rfl (fun w' hf=>by
  refine (HCP.out w' (HF2.out.trans hf) _ _ (HLW.out.at.fr hf) (HLB.out.at.fr hf)).mono ?_
  rintro e w'' ⟨v,rfl,hv,hf2⟩
  rcases hv with h | h
  ·exact absurd h.2 HX.out
  ·exact ⟨v,rfl,h.2,hf2⟩))
 have HWS:=hid hw2
 have hw1:w.heap.size < w1.heap.size:=by have:=obj_lt HOb.out;have:=hf1.size;omega
 clear ownW ownB hf1 hw2 hck
 go_wp2_with fail
 rw [← HWS.out]
 refine H52.out.mono ?_
 rintro e w3 ⟨rfl,hf3⟩
 have HF3:=hid (HF2.out.trans hf3)
 have HO13:=hid (obj_fr HO1.out hf3 List.not_mem_nil)
 have HO53:=hid (obj_fr HO5.out hf3 List.not_mem_nil)
 have k2:=obj_cell HO13.out (i:=2) (v:=.slice aW nW cW0) rfl
 have k3:=obj_cell HO13.out (i:=3) (v:=.slice aB nB cB0) rfl
 have j2:=obj_cell HO53.out (i:=2) (v:=.slice (some ⟨gW,0,none⟩) nW cW) rfl
 have j3:=obj_cell HO53.out (i:=3) (v:=.slice (some ⟨gB,0,none⟩) nB cB) rfl
 have HLB3:=hid (HLB.out.at.fr hf3)
 have H12:=hid (HIW.out w3 HF3.out _ (HLW.out.at.fr hf3))
 clear hf3 H52
 go_wp2_with fail
 refine H12.out.mono ?_
 rintro e w4 ⟨rfl,hf4⟩
 have HF4:=hid (HF3.out.trans hf4)
 have HO14:=hid (obj_fr HO13.out hf4 List.not_mem_nil)
 have HO54:=hid (obj_fr HO53.out hf4 List.not_mem_nil)
 have k3:=obj_cell HO14.out (i:=3) (v:=.slice aB nB cB0) rfl
 have j3:=obj_cell HO54.out (i:=3) (v:=.slice (some ⟨gB,0,none⟩) nB cB) rfl
 have H12b:=hid (HIB.out w4 HF4.out _ (HLB3.out.fr hf4))
 clear hf4 H12
 go_wp2_with fail
 refine H12b.out.mono ?_
 rintro e w5 ⟨rfl,hf5⟩
 have HF5:=hid (HF4.out.trans hf5)
 have HO15:=hid (obj_fr HO14.out hf5 List.not_mem_nil)
 have l0:=obj_cell HO15.out (i:=0) (v:=.string s) rfl
 have l1:=obj_cell HO15.out (i:=1) (v:=.int .i64 b) rfl
 have l2:=obj_cell HO15.out (i:=2) (v:=.slice aW nW cW0) rfl
 have l3:=obj_cell HO15.out (i:=3) (v:=.slice aB nB cB0) rfl
 have H53:=hid (HCD.out w5 HF5.out)
 clear hf5 H12b
 go_wp2_with fail
 refine H53.out.mono ?_
 rintro e w6 ⟨rfl,hf6⟩
 have HF6:=hid (HF5.out.trans hf6)
 clear hf6 H53
 go_wp2_with fail
 go_ret3
 exact ⟨rfl,HF6.out⟩
end Go.Proofs.YtnakejhohdbfdaaGreatDoor
namespace Go.Proofs.YtnakejhohdbfdaaGreatDoor
open Go.RowKit Lev Lay Bnd
set_option maxRecDepth 10000 in
set_option maxHeartbeats 4000000 in
theorem made_good (s:ByteArray) (b:Int) (vW vB:Value) (W Br:List Int) (n:Nat) (w:World) (hF:Floor w) (hend:Dec.Ends s n) (hW:slAd w vW W) (hB:slAd w vB Br) (hWl:W.length ≤ 5000) (hBl:Br.length ≤ 5000) (hck:chk s n (clsOf s n) b W Br=0)
 (Bd V X:List Int) (r bs:Int) (Cs:List (Int × Int × Int × Int)) (Ls:List Ln) (T:Twin s b W Br Bd V X r bs Cs Ls) :
 Calls Tryz.prog 14 #[.agg #[.string s,.int .i64 b,vW,vB]] w fun e w'=>∃ Q lb,e=.returned (.tuple #[.pointer (some ⟨Q,0,none⟩),.pointer (some ⟨lb,0,none⟩),.bool true]) ∧
  Hid (∃ P B v0 v1 v2 vL hs,w'.heap[Q]?=some (.cells #[.pointer (some ⟨P,0,none⟩)] 111 (0,0))∧LP w' B P Bd V X r Ls v0 v1 v2 vL hs)∧Hid (∃ WB vC vM hm,LD WB w' w'.heap.size lb s bs vC vM Cs Ls hm)∧Fr [] w w':=by
 obtain ⟨aW,cW0,rfl,_⟩:=id hW
 obtain ⟨aB,cB0,rfl,_⟩:=id hB
 obtain ⟨wb,hwb⟩:∃ wb,wb=w.alloc (.cells #[.string s,.int .i64 b,.slice aW W.length cW0,.slice aB Br.length cB0] 35):=⟨_,rfl⟩
 have HFb:=hid (show Fr [] w wb by rw [hwb];exact (Fr.refl [] w).alloc _)
 have HOb:=hid (show wb.heap[w.heap.size]?=some (.cells #[.string s,.int .i64 b,.slice aW W.length cW0,.slice aB Br.length cB0] 35 (0,0)) by rw [hwb];exact obj_new w _)
 have H51:=hid (copied_any s b _ _ W Br wb (hW.fr HFb.out) (hB.fr HFb.out) hWl hBl)
 have HFL:=hid (fun (X:World) (hf:Fr [] w X)=>hF.fr hf)
 have HW:=hid hW
 have HB:=hid hB
 have HCD:=hid (fun (X:World) (hf:Fr [] w X)=>ckD_all s b _ _ W Br n X (hF.fr hf).u hend (hW.at.fr hf) hWl (hB.at.fr hf) hBl)
 have HIW:=hid (fun (X:World) (hf:Fr [] w X) v (hv:slAt X v W)=>ints_same W v _ X hv (hW.at.fr hf) (by omega))
 have HIB:=hid (fun (X:World) (hf:Fr [] w X) v (hv:slAt X v Br)=>ints_same Br v _ X hv (hB.at.fr hf) (by omega))
 rw [hck] at HCD
 have HTP:=hid T.p
 have HTD:=hid T.d
 obtain ⟨nW,hnW⟩:∃ nW,nW=W.length:=⟨_,rfl⟩
 obtain ⟨nB,hnB⟩:∃ nB,nB=Br.length:=⟨_,rfl⟩
 have HNW:=hid hnW
 have HNB:=hid hnB
 rw [← hnW] at HOb H51 HIW HCD hwb hWl ⊢
 rw [← hnB] at HOb H51 HIB HCD hwb hBl ⊢
 have HT:=hid T
 clear hW hB hF hend hnW hnB hck T
 go_enter Tryz.func14,Tryz.ntmps14
 go_wp2_with fail
 rw [← hwb]
 clear hwb
 refine H51.out.mono ?_
 rintro e w1 ⟨gW,cW,gB,cB,rfl,ownW,ownB,hgg,hf1⟩
 obtain ⟨w2,hw2⟩:∃ w2,w2=w1.alloc (.cells #[.string s,.int .i64 b,.slice (some ⟨gW,0,none⟩) nW cW,.slice (some ⟨gB,0,none⟩) nB cB] 35):=⟨_,rfl⟩
 have HF2:=hid (show Fr [] w w2 by rw [hw2];exact (HFb.out.trans hf1).alloc _)
 have HO1:=hid (show w2.heap[w.heap.size]?=some (.cells #[.string s,.int .i64 b,.slice aW nW cW0,.slice aB nB cB0] 35 (0,0)) by rw [hw2];exact obj_fr HOb.out (hf1.alloc _) List.not_mem_nil)
 have HO5:=hid (show w2.heap[w1.heap.size]?=some (.cells #[.string s,.int .i64 b,.slice (some ⟨gW,0,none⟩) nW cW,.slice (some ⟨gB,0,none⟩) nB cB] 35 (0,0)) by rw [hw2];exact obj_new w1 _)
 have HLW:=hid (show slAd w2 (.slice (some ⟨gW,0,none⟩) nW cW) W by
  have h:=owns_fr0 (w':=w2) ownW (by rw [hw2];exact (Fr.refl [] _).alloc _)
  rw [HNW.out] at h ⊢
  exact owns_sl h)
 have HLB:=hid (show slAd w2 (.slice (some ⟨gB,0,none⟩) nB cB) Br by
  have h:=owns_fr0 (w':=w2) ownB (by rw [hw2];exact (Fr.refl [] _).alloc _)
  rw [HNB.out] at h ⊢
  exact owns_sl h)
 have H52:=hid (newC_good #[.string s,.int .i64 b,.slice (some ⟨gW,0,none⟩) nW cW,.slice (some ⟨gB,0,none⟩) nB cB] s b (some ⟨gW,0,none⟩) (some ⟨gB,0,none⟩) nW cW nB cB w2 rfl Bd V X r Ls
  (fun w' hf=>HTP.out w' _ _ (HFL.out w' (HF2.out.trans hf)) (HLW.out.at.fr hf) (HLB.out.fr hf)))
 have HOW:=hid (show w2.ownsRow wb.heap.size 3 1 (.slice (some ⟨gW,0,none⟩) nW cW) nW (ints64 W) by rw [hw2];exact ownW.alloc _)
 have HOB:=hid (show w2.ownsRow wb.heap.size 3 1 (.slice (some ⟨gB,0,none⟩) nB cB) nB (ints64 Br) by rw [hw2];exact ownB.alloc _)
 have hgW:=owns_at ownW
 have hgB:=owns_at ownB
 have hwbs:w.heap.size < wb.heap.size:=obj_lt HOb.out
 have hw2s:w2.heap.size=w1.heap.size + 1:=by rw [hw2];simp
 have HWS:=hid hw2
 have hw1:w.heap.size < w1.heap.size:=by have:=obj_lt HOb.out;have:=hf1.size;omega
 clear ownW ownB hf1 hw2
 go_wp2_with fail
 rw [← HWS.out]
 refine H52.out.mono ?_
 rintro e w3 ⟨Q,P,v0,v1,v2,vL,hs3,rfl,hQ,hQ0,hLP,hf3⟩
 have HQ:=hid hQ
 have HLP:=hid hLP
 have hQl:=obj_lt hQ
 have HF3:=hid (HF2.out.trans hf3)
 have HO13:=hid (obj_fr HO1.out hf3 List.not_mem_nil)
 have HO53:=hid (obj_fr HO5.out hf3 List.not_mem_nil)
 have k2:=obj_cell HO13.out (i:=2) (v:=.slice aW nW cW0) rfl
 have k3:=obj_cell HO13.out (i:=3) (v:=.slice aB nB cB0) rfl
 have j2:=obj_cell HO53.out (i:=2) (v:=.slice (some ⟨gW,0,none⟩) nW cW) rfl
 have j3:=obj_cell HO53.out (i:=3) (v:=.slice (some ⟨gB,0,none⟩) nB cB) rfl
 have HLB3:=hid (HLB.out.at.fr hf3)
 have H12:=hid (HIW.out w3 HF3.out _ (HLW.out.at.fr hf3))
 have HOW3:=hid (owns_fr0 HOW.out hf3)
 have HOB3:=hid (owns_fr0 HOB.out hf3)
 have HG3:=hid hf3
 clear hf3 H52 hQ hLP
 go_wp2_with fail
 refine H12.out.mono ?_
 rintro e w4 ⟨rfl,hf4⟩
 have HF4:=hid (HF3.out.trans hf4)
 have HO14:=hid (obj_fr HO13.out hf4 List.not_mem_nil)
 have HO54:=hid (obj_fr HO53.out hf4 List.not_mem_nil)
 have k3:=obj_cell HO14.out (i:=3) (v:=.slice aB nB cB0) rfl
 have j3:=obj_cell HO54.out (i:=3) (v:=.slice (some ⟨gB,0,none⟩) nB cB) rfl
 have H12b:=hid (HIB.out w4 HF4.out _ (HLB3.out.fr hf4))
 have HF34:=hid hf4
 clear hf4 H12
 go_wp2_with fail
 refine H12b.out.mono ?_
 rintro e w5 ⟨rfl,hf5⟩
 have HF5:=hid (HF4.out.trans hf5)
 have HO15:=hid (obj_fr HO14.out hf5 List.not_mem_nil)
 have l0:=obj_cell HO15.out (i:=0) (v:=.string s) rfl
 have l1:=obj_cell HO15.out (i:=1) (v:=.int .i64 b) rfl
 have l2:=obj_cell HO15.out (i:=2) (v:=.slice aW nW cW0) rfl
 have l3:=obj_cell HO15.out (i:=3) (v:=.slice aB nB cB0) rfl
 have H53:=hid (HCD.out w5 HF5.out)
 have HF45:=hid hf5
 clear hf5 H12b
 go_wp2_with fail
 refine H53.out.mono ?_
 rintro e w6 ⟨rfl,hf6⟩
 have HF6:=hid (HF5.out.trans hf6)
 have HG6:=hid (show Fr [] w3 w6 from (HF34.out.trans HF45.out).trans hf6)
 have HO16:=hid (obj_fr HO15.out hf6 List.not_mem_nil)
 have HO56:=hid (obj_fr HO53.out HG6.out List.not_mem_nil)
 have HOW6:=hid (owns_fr0 HOW3.out HG6.out)
 have HOB6:=hid (owns_fr0 HOB3.out HG6.out)
 have hz3:=HG3.out.size
 have hz6:=HG6.out.size
 clear hf6 H53
 go_wp2_with fail
 go_loopw [11] (fun a wr=>∃ (i:Nat) (xs:List Value),a=.int .i64 i∧i ≤ nW∧Hid (wr.ownsRow wb.heap.size 3 1 (.slice (some ⟨gW,0,none⟩) nW cW) nW xs)∧Hid (Fr [gW] w6 wr)) (fun a _=>nW - (intOf a).toNat)
 case atStart=>exact ⟨0,_,rfl,Nat.zero_le _,HOW6,hid (Fr.refl _ _)⟩
 case round =>
  obtain ⟨i,xs,rfl,hin,HO,HFr⟩:=hrel
  have HO5r:=hid (obj_fr HO56.out HFr.out (fun h=>by have:=List.mem_singleton.1 h;omega))
  have j2:=obj_cell HO5r.out (i:=2) (v:=.slice (some ⟨gW,0,none⟩) nW cW) rfl
  by_cases hlt:i < nW
  ·have hiI:(i:Int) < (nW:Int):=by omega
   obtain ⟨y,c1⟩:∃ y,wr.cell? ⟨gW,i,none⟩=some y:=by
    rw [HO.out.cellAt i (by omega),List.getElem?_eq_getElem (by have:=HO.out.1;omega)];exact ⟨_,rfl⟩
   have f1:=HO.out.frozenAt i
   have HS:=hid (HO.out.stored i (.int .i64 7))
   have HG:=hid (HFr.out.trans (Fr.of_grown HS.out.2))
   have HS1:=hid HS.out.1
   go_wp2
   go_roundw
   case rel=>exact ⟨i + 1,_,by go_num,by omega,HS1,HG⟩
   case measure=>simp [intOf];omega
  ·have hiI:¬ (i:Int) < (nW:Int):=by omega
   have HOB7:=hid (own_out HOB6.out HFr.out (fun h=>by have:=List.mem_singleton.1 h;omega))
   have HF7:=hid (show Fr [] w wr from HF6.out.behind HFr.out (fun k hk=>by rw [List.mem_singleton.1 hk];omega))
   go_wp2_with fail
   obtain ⟨w7,hw7⟩:∃ w7,w7=wr:=⟨_,rfl⟩
   rw [← hw7] at HOB7 HF7 HO5r HFr
   have HW7:=hid hw7
   rw [← HW7.out]
   clear hw7 j2
   go_loopw [12] (fun a wr=>∃ (i:Nat) (xs:List Value),a=.int .i64 i∧i ≤ nB∧Hid (wr.ownsRow wb.heap.size 3 1 (.slice (some ⟨gB,0,none⟩) nB cB) nB xs)∧Hid (Fr [gB] w7 wr)) (fun a _=>nB - (intOf a).toNat)
   case atStart=>exact ⟨0,_,rfl,Nat.zero_le _,HOB7,hid (Fr.refl _ _)⟩
   case round =>
    obtain ⟨i,xs,rfl,hin,HO,HFq⟩:=hrel
    have HO5q:=hid (obj_fr HO5r.out HFq.out (fun h=>by have:=List.mem_singleton.1 h;omega))
    have j3:=obj_cell HO5q.out (i:=3) (v:=.slice (some ⟨gB,0,none⟩) nB cB) rfl
    by_cases hlt:i < nB
    ·have hiI:(i:Int) < (nB:Int):=by omega
     obtain ⟨y,c1⟩:∃ y,wr.cell? ⟨gB,i,none⟩=some y:=by
      rw [HO.out.cellAt i (by omega),List.getElem?_eq_getElem (by have:=HO.out.1;omega)];exact ⟨_,rfl⟩
     have f1:=HO.out.frozenAt i
     have HS:=hid (HO.out.stored i (.int .i64 0))
     have HG:=hid (HFq.out.trans (Fr.of_grown HS.out.2))
     have HS1:=hid HS.out.1
     go_wp2
     go_roundw
     case rel=>exact ⟨i + 1,_,by go_num,by omega,HS1,HG⟩
     case measure=>simp [intOf];omega
    ·have hiI:¬ (i:Int) < (nB:Int):=by omega
     have HF8:=hid (show Fr [] w wr from HF7.out.behind HFq.out (fun k hk=>by rw [List.mem_singleton.1 hk];omega))
     have HO18:=hid (obj_fr (obj_fr HO16.out HFr.out (fun h=>by have:=List.mem_singleton.1 h;omega)) HFq.out (fun h=>by have:=List.mem_singleton.1 h;omega))
     have HLP8:=hid (((HLP.out.fr HG6.out (fun k hk=>absurd hk List.not_mem_nil)).fr HFr.out (fun k hk=>by rw [List.mem_singleton.1 hk];omega)).fr HFq.out (fun k hk=>by rw [List.mem_singleton.1 hk];omega))
     have HQ8:=hid (obj_fr (obj_fr (obj_fr HQ.out HG6.out List.not_mem_nil) HFr.out (fun h=>by have:=List.mem_singleton.1 h;omega)) HFq.out (fun h=>by have:=List.mem_singleton.1 h;omega))
     have H54:=hid (HTD.out wr _ _ (HFL.out wr HF8.out) (HW.out.at.fr HF8.out) (HB.out.at.fr HF8.out))
     rw [← HNW.out,← HNB.out] at H54
     have l0:=obj_cell HO18.out (i:=0) (v:=.string s) rfl
     have l1:=obj_cell HO18.out (i:=1) (v:=.int .i64 b) rfl
     have l2:=obj_cell HO18.out (i:=2) (v:=.slice aW nW cW0) rfl
     have l3:=obj_cell HO18.out (i:=3) (v:=.slice aB nB cB0) rfl
     go_wp2_with fail
     refine H54.out.mono ?_
     rintro e w9 ⟨lb,WB,vC,vM,hm,rfl,hLD,hlb,hf9⟩
     have HLD:=hid hLD
     have HF9:=hid hf9
     clear hLD hf9 H54
     go_wp2_with fail
     go_ret3
     exact ⟨Q,lb,rfl,hid ⟨P,_,v0,v1,v2,vL,hs3,obj_fr HQ8.out HF9.out List.not_mem_nil,HLP8.out.fr HF9.out (fun k hk=>absurd hk List.not_mem_nil)⟩,hid ⟨WB,vC,vM,hm,HLD.out⟩,HF8.out.trans HF9.out⟩
end Go.Proofs.YtnakejhohdbfdaaGreatDoor
namespace Go.Proofs.YtnakejhohdbfdaaGreatDoor
open Go.RowKit Lev Lay Bnd
def lnsFrom (w:World) (B:Nat) (hs:List Value) (Ls:List Ln) (i:Nat):Prop:=∀ j l,i ≤ j→Ls[j]?=some l→∃ vO vX,hs[j * 4]?=some (.int .i64 l.f)∧hs[j * 4 + 1]?=some (.int .i64 l.t)∧hs[j * 4 + 2]?=some vO∧hs[j * 4 + 3]?=some vX∧w.ownsRow B 3 1 vO l.o.length (intsN l.o)∧w.ownsRow B 2 1 vX l.x.length (ints64 l.x)
theorem lnsAt.from {w:World} {B U:Nat} {hs:List Value} {Ls:List Ln} (h:lnsAt w B U hs Ls):lnsFrom w B hs Ls 0:=fun j l _ hj=>by
 obtain ⟨vO,vX,a1,a2,a3,a4,a5,a6,_⟩:=h j l hj
 exact ⟨vO,vX,a1,a2,a3,a4,a5,a6⟩
theorem lnsFrom.keep {w w':World} {B:Nat} {hs:List Value} {Ls:List Ln} {i:Nat} (h:lnsFrom w B hs Ls i) (hf:∀ e v n xs,(e=3∨e=2)→w.ownsRow B e 1 v n xs→w'.ownsRow B e 1 v n xs):lnsFrom w' B hs Ls i:=fun j l hij hj=>by
 obtain ⟨vO,vX,a1,a2,a3,a4,a5,a6⟩:=h j l hij hj
 exact ⟨vO,vX,a1,a2,a3,a4,hf 3 _ _ _ (.inl rfl) a5,hf 2 _ _ _ (.inr rfl) a6⟩
theorem lnsFrom.later {w:World} {B:Nat} {hs:List Value} {Ls:List Ln} {i k:Nat} (h:lnsFrom w B hs Ls i) (hk:i ≤ k):lnsFrom w B hs Ls k:=fun j l hij hj=>h j l (by omega) hj
theorem lnsFrom.putX {w w':World} {B B' K n g i:Nat} {hs xs:List Value} {Ls:List Ln} {v:Value} (h:lnsFrom w B hs Ls (i + 1)) (hS:Sep hs K) (hK:Ls.length=K) (hi:hs[i * 4 + 3]?=some v) (hv:v.ownBlock=some g) (ho:w.ownsRow B' 2 1 v n xs) (hg:w.grownBy w' (some g)):lnsFrom w' B hs Ls (i + 1):=fun j l hij hj=>by
 obtain ⟨vO,vX,a1,a2,a3,a4,a5,a6⟩:=h j l hij hj
 have hjl:=(List.getElem?_eq_some_iff.1 hj).1
 refine ⟨vO,vX,a1,a2,a3,a4,owns_grown a5 hg (fun g' hg' e=>?_),owns_grown a6 hg (fun g' hg' e=>?_)⟩
 ·cases e;exact owns_apart a5 ho (by decide) hg' hv rfl
 ·cases e;have:=hS i j v vX g g (by omega) (by omega) (.inr ⟨hi,a4⟩) hv hg';omega
theorem lnsFrom.putO {w w':World} {B B' K n g i:Nat} {hs xs:List Value} {Ls:List Ln} {v:Value} (h:lnsFrom w B hs Ls (i + 1)) (hS:Sep hs K) (hK:Ls.length=K) (hi:hs[i * 4 + 2]?=some v) (hv:v.ownBlock=some g) (ho:w.ownsRow B' 3 1 v n xs) (hg:w.grownBy w' (some g)):lnsFrom w' B hs Ls (i + 1):=fun j l hij hj=>by
 obtain ⟨vO,vX,a1,a2,a3,a4,a5,a6⟩:=h j l hij hj
 have hjl:=(List.getElem?_eq_some_iff.1 hj).1
 refine ⟨vO,vX,a1,a2,a3,a4,owns_grown a5 hg (fun g' hg' e=>?_),owns_grown a6 hg (fun g' hg' e=>?_)⟩
 ·cases e;have:=hS i j v vO g g (by omega) (by omega) (.inl ⟨hi,a3⟩) hv hg';omega
 ·cases e;exact owns_apart a6 ho (by decide) hg' hv rfl
theorem keep_kind {w w':World} {B size n g t:Nat} {v:Value} {xs:List Value} (ho:w.ownsRow B t size v n xs) (hv:v.ownBlock=some g) (hg:w.grownBy w' (some g)):∀ B' e sz v' n' xs',e ≠ t→w.ownsRow B' e sz v' n' xs'→w'.ownsRow B' e sz v' n' xs':=fun B' e sz v' n' xs' he h =>
 owns_kind h hg (fun g' hg'=>by
  cases hg'
  obtain ⟨cs,t',f,h1,h2⟩:=owns_type ho hv
  exact ⟨cs,t',f,h1,by rw [h2];exact fun e=>he e.symm⟩)
theorem owns_put4 {w:World} {B e g n c:Nat} {xs:List Value} (h:w.ownsRow B e 4 (.slice (some ⟨g,0,none⟩) n c) n xs) (i:Nat) (x0 x1 x2 x3:Value) :
 ((((w.setCell ⟨g,i * 4,none⟩ x0).setCell ⟨g,i * 4 + 1,none⟩ x1).setCell ⟨g,i * 4 + 2,none⟩ x2).setCell ⟨g,i * 4 + 3,none⟩ x3).ownsRow B e 4 (.slice (some ⟨g,0,none⟩) n c) n ((((xs.set (i * 4) x0).set (i * 4 + 1) x1).set (i * 4 + 2) x2).set (i * 4 + 3) x3) ∧
 Fr [g] w ((((w.setCell ⟨g,i * 4,none⟩ x0).setCell ⟨g,i * 4 + 1,none⟩ x1).setCell ⟨g,i * 4 + 2,none⟩ x2).setCell ⟨g,i * 4 + 3,none⟩ x3) ∧
 ∀ B' e' sz v' n' xs',e' ≠ e→w.ownsRow B' e' sz v' n' xs'→((((w.setCell ⟨g,i * 4,none⟩ x0).setCell ⟨g,i * 4 + 1,none⟩ x1).setCell ⟨g,i * 4 + 2,none⟩ x2).setCell ⟨g,i * 4 + 3,none⟩ x3).ownsRow B' e' sz v' n' xs':=by
 have h1:=h.stored (i * 4) x0
 have h2:=h1.1.stored (i * 4 + 1) x1
 have h3:=h2.1.stored (i * 4 + 2) x2
 have h4:=h3.1.stored (i * 4 + 3) x3
 refine ⟨h4.1,(((Fr.of_grown h1.2).trans (Fr.of_grown h2.2)).trans (Fr.of_grown h3.2)).trans (Fr.of_grown h4.2),fun B' e' sz v' n' xs' he hh=>?_⟩
 exact keep_kind h3.1 (g:=g) rfl h4.2 _ _ _ _ _ _ he (keep_kind h2.1 (g:=g) rfl h3.2 _ _ _ _ _ _ he (keep_kind h1.1 (g:=g) rfl h2.2 _ _ _ _ _ _ he (keep_kind h (g:=g) rfl h1.2 _ _ _ _ _ _ he hh)))
end Go.Proofs.YtnakejhohdbfdaaGreatDoor

import Derived.Test.YtnakejhohdbfdacGreatDoorKMh
import Derived.Test.YtnakejhohdbfdacGreatDoorKRsN
import Derived.Test.YtnakejhohdbfdacGreatDoorKMb
import Derived.Lib.RuneCountTail
namespace Go.Proofs.YtnakejhohdbfdacGreatDoor
open Go.RowKit Lev Go.Maps
theorem info182:(Tryz.prog.info? 280).map (fun i=>(i.zero,i.size,i.bytes))=some (some (.agg #[.int .i32 0,.int .i64 0,.int .i64 0,.int .i64 0]),4,32):=by kernel_rfl
def cls (s:ByteArray)(k:Nat):Int:=Tabs.look Tabs.classTab (Dec.rune s k)
def ucells (s:ByteArray):Nat→List Value
 | 0=>[]
 | k+1=>ucells s k++[.int .i32 (Dec.rune s k),.int .i64 (cls s k),.int .i64 (cls s k),.int .i64 0]
theorem ucells_len (s:ByteArray):∀k,(ucells s k).length=k * 4
 | 0=>rfl
 | k+1=>by rw[ucells,List.length_append,ucells_len s k];simp;omega
theorem ucells_at (s:ByteArray):∀n i,i<n→(ucells s n)[i * 4]?=some (.int .i32 (Dec.rune s i))∧(ucells s n)[i * 4+1]?=some (.int .i64 (cls s i))∧(ucells s n)[i * 4+2]?=some (.int .i64 (cls s i))∧(ucells s n)[i * 4+3]?=some (.int .i64 0)
 | 0,i,h=>absurd h (Nat.not_lt_zero _)
 | n+1,i,h=>by
   have hl:=ucells_len s n
   rcases Nat.lt_succ_iff_lt_or_eq.1 h with h1 | h1
   ·obtain⟨a1,a2,a3,a4⟩:=ucells_at s n i h1
    rw[ucells];refine⟨?_,?_,?_,?_⟩ <;> rw[List.getElem?_append_left (by omega)] <;> assumption
   ·subst h1
    rw[ucells];refine⟨?_,?_,?_,?_⟩ <;> rw[List.getElem?_append_right (by omega),hl]
    ·simp
    ·simp[show i * 4+1 - i * 4=1 by omega]
    ·simp[show i * 4+2 - i * 4=2 by omega]
    ·simp[show i * 4+3 - i * 4=3 by omega]
theorem unit_one (a b c d:Int):∀u∈[Value.int .i32 a,.int .i64 b,.int .i64 c,.int .i64 d],u.oneCell'=true:=by
 intro u hu;simp at hu
 rcases hu with rfl | rfl | rfl | rfl <;> rfl
def qobj (w:World)(p:Nat)(cs:Array Value):Prop:=w.heap[p]?=some (.cells cs 260 (0,0))
theorem units_of {w:World}{B U n cap:Nat}{s:ByteArray}(h:w.ownsRow B 280 4 (.slice (some ⟨U,0,none⟩) n cap) n (ucells s n)):US w ⟨U,n,Rl s n,Kl s n⟩ (Kl s n) (List.replicate (Kl s n).length 0):=by
 have hk:∀i,i<n→nth (Kl s n) i=cls s i:=fun i hi=>by simp[nth,Kl,cls,hi]
 refine⟨fun i hi=>?_,fun i hi=>?_,fun i hi=>?_,fun i hi=>?_,fun j _=>h.frozenAt j,Kl_len s n,by rw[List.length_replicate,Kl_len]⟩ <;> dsimp only at hi ⊢
 ·rw[h.cellAt _ (by omega),(ucells_at s n i hi).1,Rl_at s hi]
 ·rw[h.cellAt _ (by omega),(ucells_at s n i hi).2.1,hk i hi]
 ·rw[h.cellAt _ (by omega),(ucells_at s n i hi).2.2.1,hk i hi]
 ·rw[h.cellAt _ (by omega),(ucells_at s n i hi).2.2.2]
  have:nth (List.replicate (Kl s n).length 0) i=0:=by simp[nth,Kl_len,hi]
  rw[this]
theorem own_iter' {w:World}{base:Nat}{e:TypeId}{size:Nat}{v:Value}{n:Nat}{xs:List Value}(h:w.ownsRow base e size v n xs){k:Nat}{s:ByteArray}{p:Nat}(hk:w.heap[k]?=some (.stringIter s p))(q:Nat):(w.iterAt k s q).ownsRow base e size v n xs:=by
 refine⟨h.1,?_⟩
 rcases h.2 with h1 | ⟨g,cap,cur,hv,hg,hh,r⟩
 ·exact .inl h1
 ·refine .inr ⟨g,cap,cur,hv,hg,?_,r⟩
  rw[Lib.iterAt_other w k g s q (fun e=>by rw[e,hk]at hh;cases hh)];exact hh
theorem iterPos_of' {w:World}{b:Nat}{s:ByteArray}{p:Nat}(h:w.heap[b]?=some (.stringIter s p)):w.iterPos b=p:=by simp[World.iterPos,h]
theorem below_of_fr' {w w1 w':World}(h:Fr [] w1 w')(hB:w.heap.size≤w1.heap.size):Below w.heap.size w1 w':=h.below hB (fun _ hk=>absurd hk List.not_mem_nil)
theorem below_set' {w w':World}{i:Nat}{v:Value}(h:Below w.heap.size w w'):Below w.heap.size w (w'.setCell ⟨w.heap.size,i,none⟩ v) :=
 ⟨h.os,h.tape,h.output,Nat.le_trans h.size (by simp),fun k hk=>by rw[heap_setCell_other _ _ _ _ (by dsimp only;omega)];exact h.block k hk⟩
set_option linter.unusedSimpArgs false in
set_option maxRecDepth 10000 in
set_option maxHeartbeats 4000000 in
theorem fn20_any (s:ByteArray)(w:World)(hs:s.size≤1000000)(h3:Cls.TabAt w 1 Tabs.lowTab)(h4:Cls.TabAt w 2 Tabs.highTab)(n:Nat)(hend:Dec.Ends s n)(hn0:0<n) :
 Calls Tryz.prog 135 #[.string s] w fun e w'=>∃P U cU mb D,e=.returned (.pointer (some ⟨P,0,none⟩))∧US w' ⟨U,n,Rl s n,Kl s n⟩ (Kl s n) (List.replicate (Kl s n).length 0)∧QM w' ⟨U,n,Rl s n,Kl s n⟩ P cU mb n 0 D∧mb≠U∧Fr [] w w'∧w'.frozen? ⟨P,2,none⟩=false∧w.heap.size≤P∧w.heap.size≤U:=by
 obtain⟨i0,hi,hz0,hz1,hz2⟩:=info_parts info182;have HT3:=hid h3;have HT4:=hid h4;have l3:=h3.lt (by rw[Tabs.len_low];decide);have l4:=h4.lt (by rw[Tabs.len_high];decide);have HEND:=hid hend;have hnb:n≤1000000:=by have:=Dec.le_pos s n;have:=hend.1;omega
 clear h3 h4 hend;go_enter Tryz.func135,Tryz.ntmps135;go_wp2_with fail;go_loopw [5] (fun _ wr=>∃(k p:Nat) (vU:Value),p≤s.size∧k≤p∧wr.heap[w.heap.size+1]?=some (.stringIter s p)∧Hid (p=Dec.pos s k)∧Hid (∀j,j<k→Dec.pos s j<s.size)∧Hid (qobj wr w.heap.size #[vU,.map none,.int .i64 0])∧Hid (wr.ownsRow (w.heap.size+1+1) 280 4 vU k (ucells s k))∧Hid (Below w.heap.size w wr)) (fun _ wr=>s.size - wr.iterPos (w.heap.size+1))
 case atStart =>
  refine⟨0,0,.slice none 0 0,Nat.zero_le _,Nat.le_refl _,?_,hid rfl,hid (fun j hj=>absurd hj (Nat.not_lt_zero _)),hid ?_,hid (World.ownsRow_nil _ _ _ _),hid ?_⟩
  ·have e:(w.alloc (.cells #[.slice none 0 0,.map none,.int .i64 0] 260)).heap.size=w.heap.size+1:=by simp
   rw[←e];exact World.iter_heap _ _ _
  ·exact(Lib.alloc_old _ _ _ (by simp)).trans (heap_alloc_new _ _)
  ·exact((Below.refl _ _).alloc (Nat.le_refl _) _).alloc (by simp) _
 case round =>
  obtain⟨k,p,vU,hp,hkp,hit,HP,HJ,HA,HO,HB⟩:=hrel;obtain⟨a1,c1,hv1⟩:=owns_slice HO.out;subst hv1;by_cases hlt:p<s.size
  ·have hw1:=Dec.width_pos s p
   have hw2:=Dec.width_le s p hlt;have hnx:=fun ty=>Lib.run_next_any_at (P:=Tryz.prog) wr (w.heap.size+1) s p ty hit hlt
   have HQ:Hid (p+(Utf8.decode s p).2=Dec.pos s (k+1)):=by rw[HP.out];rfl
   have HK:Hid ((((Utf8.decode s p).1:Nat):Int)=Dec.rune s k):=by rw[HP.out];rfl
   generalize (Utf8.decode s p).1=r at hnx HK;generalize (Utf8.decode s p).2=wd at hnx HQ hw1 hw2;have hJ2:Hid (∀j,j<k+1→Dec.pos s j<s.size):=by
    intro j hj
    rcases Nat.lt_or_eq_of_le (Nat.le_of_lt_succ hj)with h1 | h1
    ·exact HJ.out j h1
    ·rw[h1,←HP.out];exact hlt
   have HI:=hid (Lib.iterAt_heap wr (w.heap.size+1) s p (p+wd) hit);have HBI:=hid (Lib.below_iterAt HB.out (show w.heap.size≤w.heap.size+1 by omega) s (p+wd));have HAI:=hid ((Lib.iterAt_other wr (w.heap.size+1) w.heap.size s (p+wd) (by omega)).trans HA.out);have HOI:=hid (own_iter' HO.out hit (p+wd));have HIT:=hid hit;generalize wr.iterAt (w.heap.size+1) s (p+wd)=wi at hnx HI HBI HAI HOI;have HC:=hid (Cls.fn22_any (r:Nat) wi (HT3.out.below l3 HBI.out) (HT4.out.below l4 HBI.out));have HCL:=hid (show Tabs.look Tabs.classTab ((r:Nat):Int)=cls s k by rw[HK.out];rfl);generalize Tabs.look Tabs.classTab ((r:Nat):Int)=c at HC HCL;clear hit HO HA;go_wp2_with fail;refine HC.out.mono ?_;rintro e w1 ⟨rfl,hb1⟩;have HF1:=hid (Fr.of_below (S:=[]) hb1);have HI1:Hid (w1.heap[w.heap.size+1]?=some (.stringIter s (p+wd))):=by
    rw[hb1.block _ (Array.getElem?_eq_some_iff.1 HI.out).1];exact HI
   have hA1:=(hb1.block w.heap.size (Array.getElem?_eq_some_iff.1 HAI.out).1).trans HAI.out;have HA1:=hid hA1;have HO1:=hid (owns_fr0 HOI.out HF1.out);have HB1:=hid (HBI.out.trans (hb1.mono HBI.out.size));have g0:w1.cell? ⟨w.heap.size,0,none⟩=some (.slice a1 k c1):=by rw[cell_of_row w1 _ 0 _ _ _ hA1];rfl
   have hPl:w.heap.size<w1.heap.size:=(Array.getElem?_eq_some_iff.1 hA1).1;have hil:w.heap.size+1<w1.heap.size:=(Array.getElem?_eq_some_iff.1 HI1.out).1;clear hA1 hb1 HC HI HBI HAI HOI;go_wp2_with (at_builtin;refine wpList_append_own _ rfl _ _ 257 rfl (w.heap.size+1+1) 280 i0 _ 4 32 Tryz.underlying257 hi hz0 hz1 hz2 rfl (by decide) _ k (ucells s k) rfl ?own _ 1 1 [.int .i32 r,.int .i64 c,.int .i64 c,.int .i64 0] rfl rfl (news_at _ _ _ _ (by simp)) (unit_one _ _ _ _) (by unfold maxLen;omega) (by omega) ?szz ?_)
   case own=>exact owns_fr0 HO1.out ((Fr.refl [] w1).alloc _)
   case szz=>simp;omega
   intro v' w3 own3 hgrow hnil;obtain⟨g',c',hv'⟩:=owns_shape (by omega) own3;subst hv';have hne:∀x,(Value.slice a1 k c1).ownBlock=some x→w.heap.size+1+1≤x:=fun x hx=>(HO1.out.lt x hx).1
   have HA3:=hid (show qobj w3 w.heap.size #[.slice a1 k c1,.map none,.int .i64 0]from(hgrow.block w.heap.size (by simp;omega) (fun e=>by have:=hne _ e.symm;omega)).trans ((Lib.alloc_old _ _ _ hPl).trans HA1.out));have HI3:=hid (show w3.heap[w.heap.size+1]?=some (.stringIter s (p+wd))from(hgrow.block (w.heap.size+1) (by simp;omega) (fun e=>by have:=hne _ e.symm;omega)).trans ((Lib.alloc_old _ _ _ hil).trans HI1.out));have HB3:=hid ((HB1.out.alloc (Nat.le_of_lt hPl) (.cells #[.int .i32 r,.int .i64 c,.int .i64 c,.int .i64 0] 280)).grown hgrow (by simp;omega) (fun x hx=>by have:=hne x hx;omega));have HO3:=hid own3;have f0:w3.cell? ⟨w.heap.size,0,none⟩=some (.slice a1 k c1):=by rw[cell_of_row w3 _ 0 _ _ _ HA3.out];rfl
   have f1:=frozen_of_row w3 w.heap.size 0 _ 260 HA3.out;have hgp:w.heap.size+1+1≤g':=(owns_at own3).1;clear own3 hgrow hnil hne;go_wp2;go_roundw
   case rel =>
    refine⟨k+1,p+wd,_,by omega,by omega,?_,HQ,hJ2,hid (heap_setCell_same w3 w.heap.size 0 _ 260 _ HA3.out),hid ?_,hid (below_set' HB3.out)⟩
    ·rw[heap_setCell_other _ _ _ _ (by dsimp only;omega)];exact HI3.out
    ·rw[ucells,←HCL.out,←HK.out]
     exact owns_fr HO3.out (fr_set1 _ w.heap.size 0 _) (fun y hy hm=>by cases hy;have h5:g'=w.heap.size:=List.mem_singleton.1 hm;omega)
   case measure=>rw[iterPos_of' (show(w3.setCell ⟨w.heap.size,0,none⟩ _).heap[w.heap.size+1]?=some (.stringIter s (p+wd)) by rw[heap_setCell_other _ _ _ _ (by dsimp only;omega)];exact HI3.out),iterPos_of' HIT.out];omega
  ·have hpe:p=s.size:=by omega
   have hkn:n=k:=(Dec.ends_unique ⟨by rw[←HP.out];exact hpe,HJ.out⟩ HEND.out).symm;subst hkn;have hnx:=fun ty=>Lib.run_next_end_at (P:=Tryz.prog) wr (w.heap.size+1) s p ty hit hlt
   obtain⟨U,cU,hsh⟩:=owns_shape hn0 HO.out;cases hsh;have HU:=hid (units_of HO.out);have hUg:=owns_at HO.out;have HC98:=hid (fn43_any ⟨U,n,Rl s n,Kl s n⟩ (Kl s n) (List.replicate (Kl s n).length 0) c1 wr HU.out hnb hn0);dsimp only at HC98;have g0:wr.cell? ⟨w.heap.size,0,none⟩=some (.slice (some ⟨U,0,none⟩) n c1):=by rw[cell_of_row wr _ 0 _ _ _ HA.out];rfl
   have hPl:w.heap.size<wr.heap.size:=(Array.getElem?_eq_some_iff.1 HA.out).1;clear hpe;go_wp2_with (first | (go_at_call 163;refine HC98.out.mono ?_;rintro e w1 ⟨rfl,hD,hf1⟩;obtain⟨D,hD1,hD2⟩:=hD;have HD1:=hid hD1;have HD2:=hid hD2;have HF1:=hid hf1;have HA1:=hid (show qobj w1 w.heap.size #[.slice (some ⟨U,0,none⟩) n c1,.map none,.int .i64 0]from(hf1.block w.heap.size hPl List.not_mem_nil).trans HA.out);have f0:w1.cell? ⟨w.heap.size,1,none⟩=some (.map none):=(by rw[cell_of_row w1 _ 1 _ _ _ HA1.out];rfl);have f1:=frozen_of_row w1 w.heap.size 1 _ 260 HA1.out;clear hD1 hD2 hf1));go_ret;have HA2:=heap_setCell_same w1 w.heap.size 1 _ 260 (.map (some wr.heap.size)) HA1.out;have hset:=fr_set1 w1 w.heap.size 1 (.map (some wr.heap.size));have hne:U ∉ [w.heap.size]:=fun h=>by have:=List.mem_singleton.1 h;omega
   refine⟨w.heap.size,U,c1,wr.heap.size,D,rfl,(HU.out.fr HF1.out List.not_mem_nil).fr hset hne,⟨⟨?_,?_,by dsimp only;omega⟩,?_,HD1.out.setCell (by dsimp only;omega) _,HD2.out⟩,by omega,?_,frozen_of_row _ _ 2 _ 260 HA2,Nat.le_refl _,by omega⟩
   ·rw[cell_of_row _ _ 0 _ _ _ HA2];rfl
   ·rw[cell_of_row _ _ 2 _ _ _ HA2];rfl
   ·rw[cell_of_row _ _ 1 _ _ _ HA2];rfl
   ·exact Fr.of_below (below_set' (HB.out.trans (below_of_fr' HF1.out HB.out.size)))
end Go.Proofs.YtnakejhohdbfdacGreatDoor

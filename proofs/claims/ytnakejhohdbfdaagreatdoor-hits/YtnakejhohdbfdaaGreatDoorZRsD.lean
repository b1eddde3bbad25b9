import Derived.Test.YtnakejhohdbfdaaGreatDoorZMd
namespace Go.Proofs.YtnakejhohdbfdaaGreatDoor
open Go.RowKit Lev
theorem mateI_eq (o:Option Nat) (x:Nat):(mateI o == (x:Int))=(o == some x):=by
 cases o with
 | none=>simp [mateI]
 | some m =>
   by_cases h:m=x
   ·subst h;simp [mateI]
   ·have h1:((m:Int) == (x:Int))=false:=by simp;omega
    have h2:(some m == some x)=false:=by simp [h]
    rw [mateI,h1,h2]
def matesOk (q:PH):Prop:=∀ i,i < q.n→ini (nth q.K i)=true→nth q.M i=mateI (mate q.K i)
set_option maxHeartbeats 1000000 in
theorem ref34_any (q:PH) (C L:List Int) (G:List Bool) (ba ca bb cb:Nat) (ra rb:List Nat) (w:World) (hs:PS w q C L G) (ha:rowN w ba ra.length ra) (hb:rowN w bb rb.length rb)
 (ha0:0 < ra.length) (hb0:0 < rb.length) (hal:ra.length ≤ 1000000) (hlt:lastN ra < q.n) (hM:matesOk q) :
 Calls Tryz.prog 86 #[.pointer (some ⟨q.p,0,none⟩),.slice (some ⟨ba,0,none⟩) ra.length ca,.slice (some ⟨bb,0,none⟩) rb.length cb] w fun e w'=>e=.returned (.bool (follows q.K ra rb))∧∃ m,w'=w.drewN m:=by
 have c1:=hs.c1
 have c4:=hs.c4
 have e1:w.cell? ⟨ba,ra.length - 1,none⟩=some (.int .i64 (lastN ra:Nat)):=ha _ (by omega)
 have e2:w.cell? ⟨bb,0,none⟩=some (.int .i64 (firstN rb:Nat)):=hb 0 hb0
 have e3:=hs.rF _ hlt
 have e4:=hs.rM _ hlt
 have HM:=hM _ hlt
 obtain ⟨R,hR⟩:∃ R,R=follows q.K ra rb:=⟨_,rfl⟩
 rw [← hR]
 unfold follows at hR
 generalize lastN ra=i at *
 generalize firstN rb=j at *
 generalize nth q.K i=y at *
 generalize nth q.M i=z at *
 generalize mate q.K i=M at *
 have hsub:(((ra.length:Nat):Int) - 1).toNat=ra.length - 1:=by omega
 generalize ra.length=la at *
 generalize rb.length=lb at *
 clear hs ha hb hM
 cases hy:ini y
 ·rw [hy] at hR
  have HR:=hid hR
  clear hR HM
  obtain ⟨d,rfl⟩:∃ d,la=d + 1:=⟨la - 1,by omega⟩
  simp only [Nat.add_sub_cancel] at e1
  go_enter Tryz.func86,Tryz.ntmps86
  go_wp2_with (go_at_call 41;refine (ref10_any _ _).mono ?_;rintro e w' ⟨rfl,rfl⟩)
  go_quiet (fail)
  go_wp2
  go_ret
  exact ⟨retB (by rw [HR.out];rfl),_,rfl⟩
 ·have hz:=HM hy
  rw [hy,← mateI_eq,← hz] at hR
  have HR:=hid hR
  clear hR HM hz
  obtain ⟨d,rfl⟩:∃ d,la=d + 1:=⟨la - 1,by omega⟩
  simp only [Nat.add_sub_cancel] at e1
  go_enter Tryz.func86,Tryz.ntmps86
  go_wp2_with (go_at_call 41;refine (ref10_any _ _).mono ?_;rintro e w' ⟨rfl,rfl⟩)
  go_quiet (fail)
  go_wp2
  go_ret
  exact ⟨retB (by rw [HR.out];rfl),_,rfl⟩
theorem lvBehind_stop (K L:List Int) (base:Int) (f j:Nat) (h:¬ j < K.length):lvBehind K L base f j=base:=by
 cases f with
 | zero=>rfl
 | succ f=>rw [lvBehind,if_neg h]
theorem lvBehind_gone (K L:List Int) (base:Int) (f j:Nat) (hf:K.length ≤ j + f) (h:j < K.length) (hg:gone (nth K j)=true):∃ f',K.length ≤ j + 1 + f'∧lvBehind K L base f j=lvBehind K L base f' (j + 1):=by
 cases f with
 | zero=>omega
 | succ f=>exact ⟨f,by omega,by rw [lvBehind,if_pos h,if_pos hg]⟩
theorem lvBehind_there (K L:List Int) (base:Int) (f j:Nat) (hf:K.length ≤ j + f) (h:j < K.length) (hg:gone (nth K j)=false):lvBehind K L base f j=nth L j:=by
 cases f with
 | zero=>omega
 | succ f=>rw [lvBehind,if_pos h,if_neg (by rw [hg];exact Bool.false_ne_true)]
theorem nlp {w:World} {n:Nat} {c:Array Value} {t:TypeId} (h:w.heap[n]?=some (.cells c t (0,0))) (i:Nat) (v:Value) (hv:c[i]?=some v):w.cell? ⟨n,i,none⟩=some v∧w.frozen? ⟨n,i,none⟩=false:=by
 simp [World.cell?,World.frozen?,h,hv]
theorem four_heap (w:World) (b:Nat) (t:TypeId) (a0 a1 a2 a3 x0 x1 x2 x3:Value) (hh:w.heap[b]?=some (.cells #[a0,a1,a2,a3] t (0,0))) :
 ((((w.setCell ⟨b,0,none⟩ x0).setCell ⟨b,1,none⟩ x1).setCell ⟨b,2,none⟩ x2).setCell ⟨b,3,none⟩ x3).heap[b]?=some (.cells #[x0,x1,x2,x3] t (0,0)):=by
 rw [heap_setCell_same _ b 3 _ t x3 (heap_setCell_same _ b 2 _ t x2 (heap_setCell_same _ b 1 _ t x1 (heap_setCell_same _ b 0 _ t x0 hh)))]
 rfl
theorem fr_four {S:List Nat} {w w':World} (h:Fr S w w') (x0 x1 x2 x3:Value):Fr S w ((((w'.setCell ⟨w.heap.size,0,none⟩ x0).setCell ⟨w.heap.size,1,none⟩ x1).setCell ⟨w.heap.size,2,none⟩ x2).setCell ⟨w.heap.size,3,none⟩ x3):=by
 refine ((((((h.mono (T:=w.heap.size :: S) (fun k hk _=>List.mem_cons_of_mem _ hk)).set List.mem_cons_self x0).set List.mem_cons_self x1).set List.mem_cons_self x2).set List.mem_cons_self x3).mono ?_)
 intro k hk hl
 rcases List.mem_cons.1 hk with h1 | h1
 ·omega
 ·exact h1
set_option maxRecDepth 10000 in
set_option maxHeartbeats 4000000 in
theorem ref15_any (q:PH) (C L:List Int) (G:List Bool) (bI cI:Nat) (I:List Nat) (w:World) (hs:PS w q C L G) (hI:IS w q bI I) (hI0:0 < I.length) (hn:q.n ≤ 1000000) (hK:q.K.length=q.n)
 (hG:∀ i,i < q.n→G[i]?.getD false=gone (nth q.K i)) (hL:∀ i,0 ≤ nth L i) (hB:0 ≤ q.base) :
 Calls Tryz.prog 46 #[.pointer (some ⟨q.p,0,none⟩),.slice (some ⟨bI,0,none⟩) I.length cI] w fun e w'=>e=.returned (sqV bI cI (seqOf q.K L q.base I))∧Fr [] w w':=by
 have c1:=hs.c1
 have c2:=hs.c2
 have c3:=hs.c3
 have c5:=hs.c5
 have c6:=hs.c6
 have lp:=hs.lt
 have sm:=hI.sm
 have e1:w.cell? ⟨bI,0,none⟩=some (.int .i64 (firstN I:Nat)):=hI.r 0 hI0
 have e2:w.cell? ⟨bI,I.length - 1,none⟩=some (.int .i64 (lastN I:Nat)):=hI.r _ (by omega)
 have h1:firstN I < q.n:=hI.lt 0 hI0
 have h2:lastN I < q.n:=hI.lt _ (by omega)
 have e3:=hs.rL _ h1
 have e4:=hs.rF _ h2
 have lI:=World.block_lt_of_cell? _ _ e1
 have lL:=hs.ltL (by omega)
 have lF:=hs.ltF (by omega)
 have HS:=hid hs
 have HG:=hid hG
 have HL:=hid hL
 have HK:=hid hK
 obtain ⟨A,hA⟩:∃ A,A=lvAhead q.K L q.base (firstN I):=⟨_,rfl⟩
 obtain ⟨Bh,hBh⟩:∃ B,B=lvBehind q.K L q.base q.K.length (lastN I + 1):=⟨_,rfl⟩
 have HSQ:=hid (show seqOf q.K L q.base I=⟨I,way (nth L (firstN I)),way (max (nth L (firstN I)) A),way (max (nth L (firstN I)) (if ini (nth q.K (lastN I)) then q.base else Bh))⟩ by rw [hA,hBh];rfl)
 have hl0:=hL (firstN I)
 have HA:=hid hA
 have HBh:=hid hBh
 obtain ⟨S,hS⟩:∃ S,S=sqV bI cI (seqOf q.K L q.base I):=⟨_,rfl⟩
 rw [← hS]
 rw [HSQ.out] at hS
 dsimp only [sqV] at hS
 have HSS:=hid hS
 clear hA hBh hS hs hI hG hL hK HSQ
 generalize firstN I=fi at *
 generalize lastN I=la at *
 generalize nth L fi=l at *
 generalize nth q.K la=kl at *
 obtain ⟨d,hd⟩:∃ d,I.length=d + 1:=⟨I.length - 1,by omega⟩
 rw [hd] at e2 sm HSS ⊢
 simp only [Nat.add_sub_cancel] at e2
 clear hI0 hd
 go_enter Tryz.func46,Tryz.ntmps46
 go_wp2
 go_quiet (fail)
 go_wp2
 go_loopw [6] (fun a wr=>∃ (t:Nat),a=.int .i64 ((t:Int) - 1)∧t ≤ fi∧Hid (A=lvAhead q.K L q.base t)∧Hid (PS wr q C L G)∧Hid (Fr [] w wr)∧Hid (wr.heap[w.heap.size]?=some (.cells #[.slice none 0 0,.int .i64 0,.int .i64 0,.int .i64 0] 101 (0,0)))) (fun a _=>(intOf a + 1).toNat)
 case atStart =>
  refine ⟨fi,by go_num,Nat.le_refl _,HA,hid (HS.out.fr0 (((Fr.refl _ w).alloc _).drewN _)),hid (((Fr.refl _ w).alloc _).drewN _),hid ?_⟩
  exact heap_alloc_new _ _
 case round =>
  obtain ⟨t,rfl,ht,HA2,HP,HF,HX⟩:=hrel
  have d5:=HP.out.c5
  have d6:=HP.out.c6
  have d3:=HP.out.c3
  have d2:=HP.out.c2
  have d1:=HP.out.c1
  have lp2:=HP.out.lt
  have k1:wr.cell? ⟨bI,0,none⟩=some (.int .i64 fi):=HF.out.cell e1 (by simp)
  have k2:wr.cell? ⟨bI,d,none⟩=some (.int .i64 la):=HF.out.cell e2 (by simp)
  have k3:wr.cell? ⟨q.bL,fi,none⟩=some (.int .i64 l):=HF.out.cell e3 (by simp)
  have k4:wr.cell? ⟨q.bF,la,none⟩=some (.int .i64 kl):=HF.out.cell e4 (by simp)
  have hex:(∃ t',t=t' + 1∧gone (nth q.K t')=true)∨(t=0∧A=q.base)∨(∃ t',t=t' + 1∧t' < q.n∧gone (nth q.K t')=false∧A=nth L t'):=by
   cases t with
   | zero=>exact .inr (.inl ⟨rfl,HA2.out⟩)
   | succ t =>
     cases hg:gone (nth q.K t)
     ·refine .inr (.inr ⟨t,rfl,by omega,hg,?_⟩)
      have:=HA2.out
      rw [lvAhead,hg] at this
      simpa using this
     ·exact .inl ⟨t,rfl,hg⟩
  obtain ⟨t',rfl,hg⟩ | ⟨rfl,hAb⟩ | ⟨t',rfl,htn,hg,hAl⟩:=hex
  ·have htn:t' < q.n:=by omega
   have k5:=HP.out.rG t' htn
   rw [HG.out t' htn,hg] at k5
   have hc:((t' + 1:Nat):Int) - 1=(t':Int):=by omega
   have HA4:=hid (show A=lvAhead q.K L q.base t' by have:=HA2.out;rw [lvAhead,hg] at this;simpa using this)
   rw [hc]
   clear hg HA2
   go_wp2
   go_roundw
   case rel=>exact ⟨t',by go_num,by omega,HA4,HP,HF,HX⟩
   case measure=>simp [intOf]
  case' inr.inl =>
   have HAX:=hid hAb
   have m1:0 ≤ max l q.base:=by omega
   clear HA2 HA hAb
  case' inr.inr =>
   have k5:=HP.out.rG t' htn
   rw [HG.out t' htn,hg] at k5
   have hc:((t' + 1:Nat):Int) - 1=(t':Int):=by omega
   rw [hc]
   have k6:=HP.out.rL t' htn
   have hA0:0 ≤ nth L t':=HL.out t'
   have HAX:=hid hAl
   clear hAl
   generalize nth L t'=A' at *
   have m1:0 ≤ max l A':=by omega
   clear HA2 HA hg hc
  all_goals (
   go_wp2
   go_loopw [9] (fun a wr=>∃ (j f:Nat),a=.int .i64 (j:Int)∧j ≤ q.n∧Hid (q.n ≤ j + f)∧Hid (Bh=lvBehind q.K L q.base f j)∧Hid (PS wr q C L G)∧Hid (Fr [] w wr)∧Hid (wr.heap[w.heap.size]?=some (.cells #[.slice none 0 0,.int .i64 0,.int .i64 0,.int .i64 0] 101 (0,0)))) (fun a _=>q.n - (intOf a).toNat)
   case atStart=>exact ⟨la + 1,q.n,by go_num,by omega,hid (by omega),hid (by rw [HBh.out,HK.out]),HP,HF,HX⟩
   case round =>
    obtain ⟨j,f,rfl,hj,HJF,HB2,HP',HF',HX'⟩:=hrel
    have d5':=HP'.out.c5
    have d6':=HP'.out.c6
    have d3':=HP'.out.c3
    have d2':=HP'.out.c2
    have d1':=HP'.out.c1
    have lp':=HP'.out.lt
    have k1':wr.cell? ⟨bI,0,none⟩=some (.int .i64 fi):=HF'.out.cell e1 (by simp)
    have k4':wr.cell? ⟨q.bF,la,none⟩=some (.int .i64 kl):=HF'.out.cell e4 (by simp)
    obtain ⟨x0,y0⟩:=nlp HX'.out 0 _ rfl
    obtain ⟨x1,y1⟩:=nlp HX'.out 1 _ rfl
    obtain ⟨x2,y2⟩:=nlp HX'.out 2 _ rfl
    obtain ⟨x3,y3⟩:=nlp HX'.out 3 _ rfl
    by_cases hjn:j < q.n
    ·have k5':=HP'.out.rG j hjn
     rw [HG.out j hjn] at k5'
     cases hg:gone (nth q.K j)
     ·have HB3:=hid (HB2.out.trans (lvBehind_there q.K L q.base f j (by rw [HK.out];exact HJF.out) (by rw [HK.out];exact hjn) hg))
      rw [hg] at k5'
      clear hg HB2
      have k6':=HP'.out.rL j hjn
      have hB0:=HL.out j
      generalize nth L j=lj at *
      have m2:0 ≤ max l lj:=by omega
      have m3:0 ≤ max l q.base:=by omega
      cases hk:ini kl
      all_goals (
       rw [hk] at HSS
       go_wp2_with (first
        | (go_at_call 41;refine (ref10_any _ _).mono ?_;rintro e w' ⟨rfl,rfl⟩)
        | (go_at_call 87;refine (ref35_any _ _ _).mono ?_;rintro e w' ⟨rfl,rfl⟩)
        | (go_at_call 88;refine (ref36_any _ _ (by assumption)).mono ?_;rintro e w' ⟨rfl,rfl⟩))
       (try simp only [Exit.inBlock,Exit.then])
       refine bodyPost_ret (results_cell_row (t:=101) (fr:=(0,0)) rfl _ _ w.heap.size _ _ rfl (four_heap _ _ _ _ _ _ _ _ _ _ _ HX'.out) Tryz.underlying101 rfl (by kernel_rfl)) rfl ?_
       exact ⟨by rw [HSS.out,HAX.out,HB3.out] <;> simp,fr_four HF'.out _ _ _ _⟩)
     ·obtain ⟨f',hf',hb'⟩:=lvBehind_gone q.K L q.base f j (by rw [HK.out];exact HJF.out) (by rw [HK.out];exact hjn) hg
      rw [hg] at k5'
      have HB3:=hid (HB2.out.trans hb')
      rw [HK.out] at hf'
      clear hg HB2 hb' x0 x1 x2 x3 y0 y1 y2 y3
      go_wp2
      go_roundw
      case rel=>exact ⟨j + 1,f',by go_num,by omega,hid (by omega),HB3,HP',HF',HX'⟩
      case measure=>simp [intOf];omega
    ·have HB3:=hid (HB2.out.trans (lvBehind_stop q.K L q.base f j (by rw [HK.out];exact hjn)))
     clear HB2
     have m3:0 ≤ max l q.base:=by omega
     go_wp2_with (first
      | (go_at_call 41;refine (ref10_any _ _).mono ?_;rintro e w' ⟨rfl,rfl⟩)
      | (go_at_call 87;refine (ref35_any _ _ _).mono ?_;rintro e w' ⟨rfl,rfl⟩)
      | (go_at_call 88;refine (ref36_any _ _ (by assumption)).mono ?_;rintro e w' ⟨rfl,rfl⟩))
     (try simp only [Exit.inBlock,Exit.then])
     refine bodyPost_ret (results_cell_row (t:=101) (fr:=(0,0)) rfl _ _ w.heap.size _ _ rfl (four_heap _ _ _ _ _ _ _ _ _ _ _ HX'.out) Tryz.underlying101 rfl (by kernel_rfl)) rfl ?_
     exact ⟨by rw [HSS.out,HAX.out,HB3.out] <;> simp,fr_four HF'.out _ _ _ _⟩)
end Go.Proofs.YtnakejhohdbfdaaGreatDoor

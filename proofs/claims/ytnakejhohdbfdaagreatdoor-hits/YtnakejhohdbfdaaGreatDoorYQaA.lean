import Derived.Test.YtnakejhohdbfdaaGreatDoorYPwJ
namespace Go.Proofs.YtnakejhohdbfdaaGreatDoor
open Go.RowKit Lev Lay Bnd
def near (x hi:Int):Int:=if x < 0 then 0 else if hi < x then hi else x
theorem near_in {x hi:Int} (h:0 ≤ hi):0 ≤ near x hi∧near x hi ≤ hi:=by unfold near;split <;> (try split) <;> omega
def sideP (Bd V:List Int) (c:Nat) (right:Bool):Int × Bool:=if right=(nth V c % 2 == 1) then (nth Bd c,false) else (nth Bd (c + 1),true)
def lnN (Ls:List Ln) (i:Nat):Ln:=Ls[i]?.getD ⟨0,0,[],[]⟩
def normP (Bd V:List Int) (Ls:List Ln) (line gap:Int):Int × Bool :=
 let o:=(lnN Ls (near line (Ls.length - 1)).toNat).o
 let k:=(near gap o.length).toNat
 if o.length=0 then (0,false) else if k=0 then sideP Bd V (nix o 0) false else sideP Bd V (nix o (k - 1)) true
def bestTo (X:List Int) (x:Int):Nat→Nat
 | 0=>0
 | k + 1=>if (nth X k - x).natAbs < (nth X (bestTo X x k) - x).natAbs then k else bestTo X x k
theorem bestTo_lt (X:List Int) (x:Int):∀ k,0 < k→bestTo X x k < k
 | 0,h=>by omega
 | k + 1,_=>by
   rw [bestTo]
   split
   ·omega
   ·rcases Nat.eq_zero_or_pos k with h | h
    ·subst h;exact Nat.one_pos
    ·have:=bestTo_lt X x k h;omega
theorem bestTo_near {X:List Int} {x hi:Int} (h:∀ k,k < X.length→0 ≤ nth X k∧nth X k ≤ hi):∀ k,k ≤ X.length→bestTo X (near x hi) k=bestTo X x k
 | 0,_=>rfl
 | k + 1,hk=>by
   have ih:=bestTo_near (x:=x) h k (by omega)
   rw [bestTo,bestTo,ih]
   have h1:=h k (by omega)
   have h2:0 ≤ nth X (bestTo X x k)∧nth X (bestTo X x k) ≤ hi:=by
    rcases Nat.eq_zero_or_pos k with h0 | h0
    ·subst h0;exact h 0 (by omega)
    ·exact h _ (by have:=bestTo_lt X x k h0;omega)
   have e:((nth X k - near x hi).natAbs < (nth X (bestTo X x k) - near x hi).natAbs) ↔ ((nth X k - x).natAbs < (nth X (bestTo X x k) - x).natAbs):=by
    unfold near
    split
    ·omega
    ·split <;> omega
   by_cases hc:(nth X k - x).natAbs < (nth X (bestTo X x k) - x).natAbs
   ·rw [if_pos hc,if_pos (e.2 hc)]
   ·rw [if_neg hc,if_neg (fun hh=>hc (e.1 hh))]
def hitP (Bd V:List Int) (Ls:List Ln) (line x:Int):Int × Bool :=
 let X:=(lnN Ls (near line (Ls.length - 1)).toNat).x
 normP Bd V Ls (near line (Ls.length - 1)) (bestTo X x X.length:Nat)
structure Tame (Bd V:List Int) (Ls:List Ln):Prop where
 vb:∀ i,0 ≤ nth V i∧nth V i ≤ 1000
 ob:∀ l ∈ Ls,∀ k ∈ l.o,k < V.length
 xl:∀ l ∈ Ls,l.x.length=l.o.length + 1
 xb:∀ l ∈ Ls,∀ k,k < l.x.length→0 ≤ nth l.x k∧nth l.x k ≤ nth l.x (l.x.length - 1)∧nth l.x k ≤ 1000000000000000
theorem xsum_mono {f:Nat→Int} {o:List Nat} {M:Int} (h:∀ j,0 ≤ f j∧f j ≤ M):∀ k d,xsum f o k ≤ xsum f o (k + d)∧xsum f o (k + d) ≤ xsum f o k + d * M
 | k,0=>by simp
 | k,d + 1=>by
   have ih:=xsum_mono (o:=o) h k d
   have hh:=h (nix o (k + d))
   rw [show k + (d + 1)=(k + d) + 1 from rfl,xsum]
   have e:((d + 1:Nat):Int) * M=(d:Int) * M + M:=by rw [Int.natCast_add,Int.add_mul];simp
   rw [e]
   omega
theorem lnN_mem {Ls:List Ln} {i:Nat} (h:i < Ls.length):lnN Ls i ∈ Ls:=by
 rw [lnN,List.getElem?_eq_getElem h];exact List.getElem_mem _
theorem nix_le {s:ByteArray} {n:Nat} (k:Nat):nix (bix s n) k ≤ n:=by
 by_cases hk:k < cn s n
 ·exact Nat.le_of_lt (bix_in hk)
 ·have hl:=(bix_len s n).2.1
  by_cases hk2:k=cn s n
  ·rw [hk2,bix_last];exact Nat.le_refl _
  ·rw [nix,List.getElem?_eq_none (by unfold cn at hk hk2;omega)];exact Nat.zero_le _
theorem tame_pos {s:ByteArray} {n:Nat} (hn:0 < n) (hn4:n ≤ 400) {bs:Int} (hb:bs=0∨bs=1) {W Br:List Int} (hW:∀ i,0 ≤ nth W i∧nth W i ≤ 1073741824) (E:Edges s n Br) (hc:cn s n ≤ 400):Tame (bnd s n) (lvE s n bs Br) (lns s n bs W Br (Br.length + 1)):=by
 have hvl:(lvE s n bs Br).length=cn s n:=by rw [lvE,lvs_len,← cn_begs hn]
 have hwid:∀ k,0 ≤ wid W (nix (bix s n) k) (nix (bix s n) (k + 1))∧wid W (nix (bix s n) k) (nix (bix s n) (k + 1)) ≤ 429496729600:=fun k=>by
  have h1:=wid_bound W 1073741824 hW (nix (bix s n) k) (nix (bix s n) (k + 1) - nix (bix s n) k)
  have h2:=nix_le (s:=s) (n:=n) (k + 1)
  unfold wid
  omega
 have hl:∀ l ∈ lns s n bs W Br (Br.length + 1),∃ a b,a ≤ b∧b ≤ cn s n∧l=lnOf (Dec.pos s) (nix (bix s n)) (evOf s n bs Br) W a b:=fun l hl=>by
  obtain ⟨j,hj,rfl⟩:=List.mem_map.1 hl
  have hj:=List.mem_range.1 hj
  exact ⟨_,_,Nat.le_of_lt (E.mono j (j + 1) (by omega) (by omega)),E.le (j + 1) (by omega),rfl⟩
 refine ⟨lvs_in (fun i=>?_),fun l hm k hk=>?_,fun l hm=>?_,fun l hm k hk=>?_⟩
 ·by_cases hi:i < n
  ·rw [mixL_all (by rw [levels_len _ _ _ hb,Kl_len];exact hi)]
   have:=elv_bound (Rl s n) (Kl s n) bs hb (edg (bix s n) (bnd s n) Br) i
   omega
  ·rw [nth_over (by rw [mixL_len,levels_len _ _ _ hb,Kl_len];omega)];decide
 ·obtain ⟨a,b,hab,hbc,rfl⟩:=hl l hm
  obtain ⟨t,ht,rfl⟩:=List.mem_map.1 (show k ∈ (ordD _ (b - a)).map _ from hk)
  have:=ordD_lt _ _ t ht
  rw [hvl];omega
 ·obtain ⟨a,b,hab,hbc,rfl⟩:=hl l hm
  unfold lnOf
  dsimp only
  rw [xs_len,List.length_map,ordD_len]
 ·obtain ⟨a,b,hab,hbc,rfl⟩:=hl l hm
  unfold lnOf at hk ⊢
  dsimp only at hk ⊢
  rw [xs_len] at hk ⊢
  rw [xs_at _ _ (by omega),xs_at _ _ (by omega)]
  have m1:=xsum_mono (f:=fun k=>wid W (nix (bix s n) k) (nix (bix s n) (k + 1))) (o:=(ordD (fun t=>evOf s n bs Br (nix (bix s n) (a + t))) (b - a)).map (fun t=>t + a)) hwid 0 k
  have m2:=xsum_mono (f:=fun k=>wid W (nix (bix s n) k) (nix (bix s n) (k + 1))) (o:=(ordD (fun t=>evOf s n bs Br (nix (bix s n) (a + t))) (b - a)).map (fun t=>t + a)) hwid k (b - a - k)
  rw [Nat.zero_add] at m1
  rw [show k + (b - a - k)=b - a + 1 - 1 by omega] at m2
  have e0:xsum (fun k=>wid W (nix (bix s n) k) (nix (bix s n) (k + 1))) ((ordD (fun t=>evOf s n bs Br (nix (bix s n) (a + t))) (b - a)).map (fun t=>t + a)) 0=0:=rfl
  rw [e0] at m1
  refine ⟨m1.1,m2.1,Int.le_trans m1.2 ?_⟩
  omega
theorem tame_nil:Tame [0] [] [ln0]:=by
 refine ⟨fun i=>?_,fun l hl k hk=>?_,fun l hl=>?_,fun l hl k hk=>?_⟩
 ·rw [nth_over (by simp)];decide
 ·rw [List.mem_singleton.1 hl] at hk;cases hk
 ·rw [List.mem_singleton.1 hl];rfl
 ·rw [List.mem_singleton.1 hl] at hk ⊢
  obtain rfl:k=0:=by simp [ln0] at hk;exact hk
  decide
end Go.Proofs.YtnakejhohdbfdaaGreatDoor
namespace Go.Proofs.YtnakejhohdbfdaaGreatDoor
open Go.RowKit Lev Lay Bnd
theorem near_eq (x hi:Int) (h:0 ≤ hi):min (max x 0) hi=near x hi:=by unfold near;split <;> (try split) <;> omega
theorem nearP_any (x hi:Int) (w:World) (h:0 ≤ hi):Calls Tryz.prog 107 #[.int .i64 x,.int .i64 hi] w fun e w'=>e=.returned (.int .i64 (near x hi))∧w'=w:=by
 rw [← near_eq x hi h]
 go_enter Tryz.func107,Tryz.ntmps107
 go_wp2
 go_ret
 exact ⟨rfl,rfl⟩
theorem bound_any (x hi:Int) (w:World):Calls Tryz.prog 62 #[.int .i64 x,.int .i64 hi] w fun e w'=>e=.returned (.int .i64 (near x hi))∧w'=w:=by
 obtain ⟨R,hR⟩:∃ R,R=near x hi:=⟨_,rfl⟩
 rw [← hR]
 have HR:=hid hR
 clear hR
 by_cases h1:x < 0
 ·have HE:=hid (show R=0 by rw [HR.out,near,if_pos h1])
  go_enter Tryz.func62,Tryz.ntmps62
  go_wp2
  go_ret
  exact ⟨by simp [HE.out],rfl⟩
 ·have hd1:decide (x < 0)=false:=by simp;omega
  by_cases h2:hi < x
  ·have HE:=hid (show R=hi by rw [HR.out,near,if_neg h1,if_pos h2])
   go_enter Tryz.func62,Tryz.ntmps62
   go_wp2
   go_ret
   exact ⟨by simp [HE.out],rfl⟩
  ·have hd2:decide (hi < x)=false:=by simp;omega
   have HE:=hid (show R=x by rw [HR.out,near,if_neg h1,if_neg h2])
   go_enter Tryz.func62,Tryz.ntmps62
   go_wp2
   go_ret
   exact ⟨by simp [HE.out],rfl⟩
theorem nearL_any (a:Option Addr) (K c:Nat) (x:Int) (w:World) (h0:0 < K) (hK:K ≤ 100000):Calls Tryz.prog 106 #[.slice a K c,.int .i64 x] w fun e w'=>e=.returned (.int .i64 (near x ((K:Int) - 1)))∧w'=w:=by
 have HC:=hid (fun X:World=>nearP_any x ((K:Int) - 1) X (by omega))
 have hw1:IntKind.i64.wrap ((K:Int) - 1)=(K:Int) - 1:=by rw [IntKind.wrap_i64];omega
 generalize near x ((K:Int) - 1)=y at *
 go_enter Tryz.func106,Tryz.ntmps106
 go_wp2_with (go_at_call 107;refine (HC.out _).mono ?_;rintro e w' ⟨rfl,rfl⟩)
 go_ret
 exact ⟨rfl,rfl⟩
theorem dist_any (a b:Int) (w:World) (ha:-1000000000000000000 ≤ a∧a ≤ 1000000000000000000) (hb:-1000000000000000000 ≤ b∧b ≤ 1000000000000000000):Calls Tryz.prog 169 #[.int .i64 a,.int .i64 b] w fun e w'=>e=.returned (.int .i64 ((a - b).natAbs:Nat))∧w'=w:=by
 have HE:=hid (show max (a - b) (b - a)=((a - b).natAbs:Nat) by omega)
 have hw1:IntKind.i64.wrap (a - b)=a - b:=by rw [IntKind.wrap_i64];omega
 have hw2:IntKind.i64.wrap (b - a)=b - a:=by rw [IntKind.wrap_i64];omega
 rw [← HE.out]
 go_enter Tryz.func169,Tryz.ntmps169
 go_wp2
 go_ret
 exact ⟨rfl,rfl⟩
set_option maxRecDepth 10000 in
set_option maxHeartbeats 2000000 in
theorem gapNear_any (X:List Int) (x hi:Int) (g m c:Nat) (w:World) (hm:m=X.length) (hm0:0 < m) (hm1:m ≤ 100000) (hr:rowAt w g m X) (hX:∀ k,k < X.length→0 ≤ nth X k∧nth X k ≤ hi) (hl:nth X (m - 1)=hi) (hhi:hi ≤ 1000000000000000) :
 Calls Tryz.prog 109 #[.slice (some ⟨g,0,none⟩) m c,.int .i64 x] w fun e w'=>e=.returned (.int .i64 (bestTo X x m:Nat))∧Fr [] w w':=by
 have hhi0:0 ≤ hi:=by have:=hX (m - 1) (by omega);omega
 have HBE:=hid (show bestTo X (near x hi) m=bestTo X x m by rw [hm];exact bestTo_near hX _ (Nat.le_refl _))
 have hni:=near_in (x:=x) hhi0
 have HNE:=hid (near_eq x hi hhi0)
 have c0:=hr (m - 1) (by omega)
 rw [hl] at c0
 have HR:=hid hr
 have HXB:=hid (show ∀ k,k < m→0 ≤ nth X k∧nth X k ≤ hi by rw [hm];exact hX)
 rw [← HBE.out]
 have hw1:IntKind.i64.wrap ((m:Int) - 1)=((m - 1:Nat):Int):=by rw [IntKind.wrap_i64];omega
 have hlt1:((m - 1:Nat):Int) < (m:Int):=by omega
 generalize hx':near x hi=x' at *
 obtain ⟨m1,hm1'⟩:∃ m1,m1=m - 1:=⟨_,rfl⟩
 rw [← hm1'] at c0 hw1 hlt1
 clear hX hr hm hl hx' hm1'
 go_enter Tryz.func109,Tryz.ntmps109
 go_wp2_with fail
 rw [HNE.out]
 go_loopw [5,19] (fun vb vk wr=>∃ k:Nat,vk=.int .i64 k∧k ≤ m∧vb=.int .i64 (bestTo X x' k:Nat)∧Hid (∃ q,wr=w.drewN q)) (fun _ vk _=>m - (intOf vk).toNat)
 case atStart=>exact ⟨0,rfl,Nat.zero_le _,rfl,hid ⟨0,rfl⟩⟩
 case round =>
  obtain ⟨k,rfl,hk,rfl,HQ⟩:=hrel
  have HF:=hid (show Fr [] w wr by obtain ⟨q,h⟩:=HQ.out;rw [h];exact fr_drewN w q)
  by_cases hlt:k < m
  ·have hkI:(k:Int) < (m:Int):=by omega
   have HBL:=hid (show bestTo X x' k < m by
    rcases Nat.eq_zero_or_pos k with h | h
    ·subst h;exact hm0
    ·have:=bestTo_lt X x' k h;omega)
   have HST:=hid (show bestTo X x' (k + 1)=if (nth X k - x').natAbs < (nth X (bestTo X x' k) - x').natAbs then k else bestTo X x' k from rfl)
   have c1:=HF.out.cell (HR.out k hlt) List.not_mem_nil
   have c2:=HF.out.cell (HR.out _ HBL.out) List.not_mem_nil
   have b1:=HXB.out k hlt
   have b2:=HXB.out _ HBL.out
   have hBI:((bestTo X x' k:Nat):Int) < (m:Int):=by have:=HBL.out;omega
   obtain ⟨B2,hB2⟩:∃ B2,B2=bestTo X x' (k + 1):=⟨_,rfl⟩
   rw [← hB2] at HST
   have HBB:=hid hB2
   clear hB2
   generalize bestTo X x' k=B1 at *
   generalize nth X k=y1 at *
   generalize nth X B1=y2 at *
   have HD:=hid (fun (a:Int) (Y:World) (h0:0 ≤ a∧a ≤ hi)=>dist_any a x' Y (by omega) (by omega))
   by_cases hc:(y1 - x').natAbs < (y2 - x').natAbs
   ·have hcI:(((y1 - x').natAbs:Nat):Int) < (((y2 - x').natAbs:Nat):Int):=by omega
    have HB2:=hid (show B2=k by rw [HST.out,if_pos hc])
    have HB12:=hid (And.intro b1 b2)
    clear b1 b2 HST
    go_wp2_with fail
    go_quiet (first | (go_at_call 169;exact Calls.quiet_of_same (HD.out _ _ (by first | exact HB12.out.1 | exact HB12.out.2))))
    go_wp2
    go_roundw
    case rel=>exact ⟨k + 1,by go_num,by omega,by rw [← HBB.out,HB2.out],hid (by obtain ⟨q,h⟩:=HQ.out;exact ⟨q + nq,by rw [h,World.drewN_drewN]⟩)⟩
    case measure=>simp [intOf];omega
   ·have hcI:¬ (((y1 - x').natAbs:Nat):Int) < (((y2 - x').natAbs:Nat):Int):=by omega
    have hcd:decide ((((y1 - x').natAbs:Nat):Int) < (((y2 - x').natAbs:Nat):Int))=false:=by simpa using hcI
    have HB2:=hid (show B2=B1 by rw [HST.out,if_neg hc])
    have HB12:=hid (And.intro b1 b2)
    clear b1 b2 HST
    go_wp2_with fail
    go_quiet (first | (go_at_call 169;exact Calls.quiet_of_same (HD.out _ _ (by first | exact HB12.out.1 | exact HB12.out.2))))
    go_wp2
    go_roundw
    case rel=>exact ⟨k + 1,by go_num,by omega,by rw [← HBB.out,HB2.out],hid (by obtain ⟨q,h⟩:=HQ.out;exact ⟨q + nq,by rw [h,World.drewN_drewN]⟩)⟩
    case measure=>simp [intOf];omega
  ·obtain rfl:k=m:=by omega
   have hkI:¬ (k:Int) < (k:Int):=by omega
   go_wp2
   go_ret
   exact ⟨rfl,HF.out⟩
end Go.Proofs.YtnakejhohdbfdaaGreatDoor
namespace Go.Proofs.YtnakejhohdbfdaaGreatDoor
open Go.RowKit Lev Lay Bnd
set_option maxRecDepth 10000 in
set_option maxHeartbeats 2000000 in
theorem side_any (Bd V:List Int) (gB cB nB gV nV cV c:Nat) (v2:Value) (right:Bool) (w:World) (hc:c < nV) (hn:nB=nV + 1) (hB:rowAt w gB nB Bd) (hV:rowAt w gV nV V) (h0:0 ≤ nth V c) (hn1:nV ≤ 1000) :
 Calls Tryz.prog 108 #[.agg #[.slice (some ⟨gB,0,none⟩) nB cB,.slice (some ⟨gV,0,none⟩) nV cV,v2],.int .i64 (c:Nat),.bool right] w fun e w'=>e=.returned (.agg #[.int .i64 (sideP Bd V c right).1,.bool (sideP Bd V c right).2])∧Fr [] w w':=by
 obtain ⟨w2,hw2⟩:∃ w2,w2=(w.alloc (.cells #[.slice (some ⟨gB,0,none⟩) nB cB,.slice (some ⟨gV,0,none⟩) nV cV,v2] 163)).alloc (.cells #[.int .i64 0,.bool false] 55):=⟨_,rfl⟩
 have HF2:=hid (show Fr [] w w2 by rw [hw2];exact ((Fr.refl [] w).alloc _).alloc _)
 have HO1:=hid (show w2.heap[w.heap.size]?=some (.cells #[.slice (some ⟨gB,0,none⟩) nB cB,.slice (some ⟨gV,0,none⟩) nV cV,v2] 163 (0,0)) by rw [hw2];exact obj_fr (obj_new w _) ((Fr.refl [] _).alloc _) List.not_mem_nil)
 have HO2:=hid (show w2.heap[w.heap.size + 1]?=some (.cells #[.int .i64 0,.bool false] 55 (0,0)) by
  have h:=obj_new (w.alloc (.cells #[.slice (some ⟨gB,0,none⟩) nB cB,.slice (some ⟨gV,0,none⟩) nV cV,v2] 163)) (.cells #[.int .i64 0,.bool false] 55)
  rw [← hw2] at h;simpa using h)
 have H105:=hid (left_any V gV nV cV c (.slice (some ⟨gB,0,none⟩) nB cB) v2 w2 hc (hV.fr HF2.out List.not_mem_nil) h0)
 have HB:=hid hB
 obtain ⟨x,y,hxy⟩:∃ x y,sideP Bd V c right=(x,y):=⟨_,_,rfl⟩
 have HXY:=hid hxy
 rw [hxy]
 have k0:=obj_cell HO1.out (i:=0) (v:=.slice (some ⟨gB,0,none⟩) nB cB) rfl
 have k1:=obj_cell HO1.out (i:=1) (v:=.slice (some ⟨gV,0,none⟩) nV cV) rfl
 have k2:=obj_cell HO1.out (i:=2) (v:=v2) rfl
 have HN:=hid hn
 have hb1:c < nB∧c + 1 < nB:=by omega
 clear hB hV hxy h0 hn
 go_enter Tryz.func108,Tryz.ntmps108
 go_wp2_with fail
 rw [← hw2]
 clear hw2
 refine H105.out.mono ?_
 rintro e w3 ⟨rfl,hf3⟩
 have HF3:=hid (HF2.out.trans hf3)
 have HO13:=hid (obj_fr HO1.out hf3 List.not_mem_nil)
 have HO23:=hid (obj_fr HO2.out hf3 List.not_mem_nil)
 clear k0 k1 k2 hf3 H105
 have k0:=obj_cell HO13.out (i:=0) (v:=.slice (some ⟨gB,0,none⟩) nB cB) rfl
 have z0:=obj_cell HO23.out (i:=0) (v:=.int .i64 0) rfl
 have z1:=obj_cell HO23.out (i:=1) (v:=.bool false) rfl
 have f0:=obj_froz HO23.out 0
 have f1:=obj_froz HO23.out 1
 have c0:=HF3.out.cell (HB.out c hb1.1) List.not_mem_nil
 have c1:=HF3.out.cell (HB.out (c + 1) hb1.2) List.not_mem_nil
 have hcI:(c:Int) < (nB:Int):=by omega
 have hcI2:(c:Int) + 1 < (nB:Int):=by omega
 have hS:right=(nth V c % 2 == 1)→x=nth Bd c∧y=false:=fun h=>by
  have e:=HXY.out;rw [sideP,if_pos h] at e;cases e;exact ⟨rfl,rfl⟩
 have hS':¬ right=(nth V c % 2 == 1)→x=nth Bd (c + 1)∧y=true:=fun h=>by
  have e:=HXY.out;rw [sideP,if_neg h] at e;cases e;exact ⟨rfl,rfl⟩
 have HEND:=hid (fun (x:Int) (y:Bool)=>(show ((w3.setCell ⟨w.heap.size + 1,0,none⟩ (.int .i64 x)).setCell ⟨w.heap.size + 1,1,none⟩ (.bool y)).heap[w.heap.size + 1]?=some (.cells #[.int .i64 x,.bool y] 55 (0,0)) from obj_set (obj_set HO23.out 0 _) 1 _))
 have HFE:=hid (fun (x:Int) (y:Bool)=>(show Fr [] w ((w3.setCell ⟨w.heap.size + 1,0,none⟩ (.int .i64 x)).setCell ⟨w.heap.size + 1,1,none⟩ (.bool y)) from HF3.out.behind ((fr_set1 _ _ _ _).set (List.mem_singleton.2 rfl) _) (fun k hk=>by rw [List.mem_singleton.1 hk];omega)))
 generalize (nth V c % 2 == 1)=od at *
 generalize nth Bd c=y0 at *
 generalize nth Bd (c + 1)=y1 at *
 clear hb1
 by_cases hr:right=od
 ·obtain ⟨rfl,rfl⟩:=hS hr
  subst hr
  clear hS hS' HXY
  go_wp2_with fail
  refine bodyPost_ret (results_cell_row (t:=55) (fr:=(0,0)) rfl _ _ (w.heap.size + 1) _ _ rfl (HEND.out _ _) Tryz.underlying55 rfl (by kernel_rfl)) rfl ?_
  exact ⟨rfl,HFE.out _ _⟩
 ·obtain ⟨rfl,rfl⟩:=hS' hr
  have hr2:(right == od)=false:=by simpa using hr
  clear hS hS' HXY
  go_wp2_with fail
  refine bodyPost_ret (results_cell_row (t:=55) (fr:=(0,0)) rfl _ _ (w.heap.size + 1) _ _ rfl (HEND.out _ _) Tryz.underlying55 rfl (by kernel_rfl)) rfl ?_
  exact ⟨rfl,HFE.out _ _⟩
end Go.Proofs.YtnakejhohdbfdaaGreatDoor
namespace Go.Proofs.YtnakejhohdbfdaaGreatDoor
open Go.RowKit Lev Lay Bnd
theorem near_nat {x:Int} {m:Nat}:∃ k:Nat,near x (m:Int)=(k:Int)∧k ≤ m:=by
 have h:=near_in (x:=x) (hi:=(m:Int)) (by omega)
 exact ⟨(near x m).toNat,by omega,by omega⟩
theorem lnN_get {Ls:List Ln} {i:Nat} (h:i < Ls.length):Ls[i]?=some (lnN Ls i):=by rw [lnN,List.getElem?_eq_getElem h];rfl
set_option maxRecDepth 10000 in
set_option maxHeartbeats 4000000 in
theorem normP_any (B P:Nat) (Bd V X:List Int) (r:Int) (Ls:List Ln) (v0 v1 v2 vL:Value) (hs:List Value) (line gap:Int) (w:World) (h:LP w B P Bd V X r Ls v0 v1 v2 vL hs) (T:Tame Bd V Ls) (hbd:Bd.length=V.length + 1) (hv4:V.length ≤ 400) (hK0:0 < Ls.length) (hK:Ls.length ≤ 400) (hlo:∀ l ∈ Ls,l.o.length ≤ 1000) :
 Calls Tryz.prog 61 #[.pointer (some ⟨P,0,none⟩),.agg #[.int .i64 line,.int .i64 gap]] w fun e w'=>e=.returned (.agg #[.int .i64 (normP Bd V Ls line gap).1,.bool (normP Bd V Ls line gap).2])∧Fr [] w w':=by
 obtain ⟨i,hi,hiK⟩:=near_nat (x:=line) (m:=Ls.length - 1)
 have hi':near line ((Ls.length:Int) - 1)=(i:Int):=by rw [← hi];congr 1;omega
 have hil:i < Ls.length:=by omega
 obtain ⟨k,hk,hkl⟩:=near_nat (x:=gap) (m:=(lnN Ls i).o.length)
 have HNP:=hid (show normP Bd V Ls line gap=if (lnN Ls i).o.length=0 then (0,false) else if k=0 then sideP Bd V (nix (lnN Ls i).o 0) false else sideP Bd V (nix (lnN Ls i).o (k - 1)) true by
  unfold normP;dsimp only;rw [hi',Int.toNat_natCast,hk,Int.toNat_natCast])
 obtain ⟨U,_,hn⟩:=h.n
 obtain ⟨vO,vX,_,_,a3,_,a5,_⟩:=hn i _ (lnN_get hil)
 obtain ⟨gL,cL,hvL⟩:=owns_shape hK0 h.l
 subst hvL
 obtain ⟨aO,cO,hvO⟩:=owns_slice a5
 subst hvO
 have hob:=T.ob _ (lnN_mem hil)
 have hlo1:=hlo _ (lnN_mem hil)
 have H106:=hid (fun Y:World=>nearL_any (some ⟨gL,0,none⟩) Ls.length cL line Y hK0 (by omega))
 have H107:=hid (fun Y:World=>nearP_any gap (((lnN Ls i).o.length:Nat):Int) Y (by omega))
 rw [hi'] at H106
 rw [hk] at H107
 have HVB:=hid T.vb
 have HVO:=hid a5
 have HLP:=hid h
 have HOB:=hid hob
 have c3:w.cell? ⟨gL,i * 4 + 2,none⟩=some (.slice aO (lnN Ls i).o.length cO):=by rw [h.l.cellAt _ (by omega)];exact a3
 have p3:=obj_cell h.o (i:=3) (v:=.slice (some ⟨gL,0,none⟩) Ls.length cL) rfl
 have hPl:=obj_lt h.o
 have hgl:=World.block_lt_of_cell? _ _ c3
 dsimp only at hgl
 obtain ⟨x,y,hxy⟩:∃ x y,normP Bd V Ls line gap=(x,y):=⟨_,_,rfl⟩
 rw [hxy] at HNP ⊢
 obtain ⟨o,ho⟩:∃ o,o=(lnN Ls i).o:=⟨_,rfl⟩
 rw [← ho] at HNP HVO H107 HOB c3 hkl hlo1
 obtain ⟨lo,hlo'⟩:∃ lo,lo=o.length:=⟨_,rfl⟩
 have HLO:=hid hlo'
 rw [← hlo'] at HNP HVO H107 c3 hkl hlo1
 obtain ⟨K,hK'⟩:∃ K,K=Ls.length:=⟨_,rfl⟩
 rw [← hK'] at H106 p3 hK0 hK hil
 obtain ⟨w2,hw2⟩:∃ w2,w2=(w.alloc (.cells #[.int .i64 line,.int .i64 gap] 58)).alloc (.cells #[.int .i64 0,.bool false] 55):=⟨_,rfl⟩
 have HF2:=hid (show Fr [] w w2 by rw [hw2];exact ((Fr.refl [] w).alloc _).alloc _)
 have HO1:=hid (show w2.heap[w.heap.size]?=some (.cells #[.int .i64 line,.int .i64 gap] 58 (0,0)) by rw [hw2];exact obj_fr (obj_new w _) ((Fr.refl [] _).alloc _) List.not_mem_nil)
 have HO2:=hid (show w2.heap[w.heap.size + 1]?=some (.cells #[.int .i64 0,.bool false] 55 (0,0)) by
  have h:=obj_new (w.alloc (.cells #[.int .i64 line,.int .i64 gap] 58)) (.cells #[.int .i64 0,.bool false] 55)
  rw [← hw2] at h;simpa using h)
 have HP2:=hid (HF2.out.cell p3 List.not_mem_nil)
 have HC2:=hid (HF2.out.cell c3 List.not_mem_nil)
 have hiI:(i:Int) < (K:Int):=by omega
 have HBD:=hid hbd
 clear h T hbd hn a3 a5 hi hi' hk hxy ho hlo' hK' hob hlo c3 p3
 go_enter Tryz.func61,Tryz.ntmps61
 go_wp2_with fail
 rw [← hw2]
 clear hw2
 have b0:=obj_cell HO1.out (i:=0) (v:=.int .i64 line) rfl
 have b1:=obj_cell HO1.out (i:=1) (v:=.int .i64 gap) rfl
 have p3:=HP2.out
 have c3:=HC2.out
 go_quiet (first | (go_at_call 106;exact Calls.quiet_of_same (H106.out _)))
 have z0:=obj_cell HO2.out (i:=0) (v:=.int .i64 0) rfl
 have z1:=obj_cell HO2.out (i:=1) (v:=.bool false) rfl
 have f0:=obj_froz HO2.out 0
 have f1:=obj_froz HO2.out 1
 have HEND:=hid (fun (Y:World) (hY:Y.heap[w.heap.size + 1]?=some (.cells #[.int .i64 0,.bool false] 55 (0,0))) (x:Int) (y:Bool)=>(show ((Y.setCell ⟨w.heap.size + 1,0,none⟩ (.int .i64 x)).setCell ⟨w.heap.size + 1,1,none⟩ (.bool y)).heap[w.heap.size + 1]?=some (.cells #[.int .i64 x,.bool y] 55 (0,0)) from obj_set (obj_set hY 0 _) 1 _))
 have HFE:=hid (fun (Y:World) (hY:Fr [] w Y) (x:Int) (y:Bool)=>(show Fr [] w ((Y.setCell ⟨w.heap.size + 1,0,none⟩ (.int .i64 x)).setCell ⟨w.heap.size + 1,1,none⟩ (.bool y)) from hY.behind ((fr_set1 _ _ _ _).set (List.mem_singleton.2 rfl) _) (fun k hk=>by rw [List.mem_singleton.1 hk];omega)))
 by_cases hl0:lo=0
 ·subst hl0
  have HXY:=hid (show (x,y)=((0:Int),false) by rw [HNP.out,if_pos rfl])
  obtain ⟨rfl,rfl⟩:=Prod.mk.inj HXY.out
  clear HNP HXY
  go_wp2_with (first | (go_at_call 107;refine (H107.out _).mono ?_;rintro e w' ⟨rfl,rfl⟩))
  refine bodyPost_ret (results_cell_row (t:=55) (fr:=(0,0)) rfl _ _ (w.heap.size + 1) _ _ rfl (HEND.out _ ?h1 _ _) Tryz.underlying55 rfl (by kernel_rfl)) rfl ?_
  case h1=>exact HO2.out
  exact ⟨rfl,HFE.out (w2.drewN nq) (HF2.out.trans (fr_drewN _ _)) _ _⟩
 ·have hl0':((lo:Nat):Int) ≠ 0:=by omega
  have hl0b:(((lo:Nat):Int) == 0)=false:=by simp;omega
  obtain ⟨gO,cO',hvO⟩:=owns_shape (by omega) HVO.out
  cases hvO
  have hvp:0 < V.length:=by
   have:=HOB.out (nix o 0) (nix_mem (by rw [← HLO.out];omega));omega
  obtain ⟨gB,cB,rfl,_,rB⟩:=HLP.out.b.row (by rw [HBD.out];omega)
  obtain ⟨gV,cV,rfl,_,rV⟩:=HLP.out.v.row hvp
  have HRB:=hid (rB.fr HF2.out List.not_mem_nil)
  have HRV:=hid (rV.fr HF2.out List.not_mem_nil)
  obtain ⟨aX,cX,hvX,_⟩:=id HLP.out.x
  subst hvX
  have HPO:=hid (obj_fr HLP.out.o HF2.out List.not_mem_nil)
  have q0:=obj_cell HPO.out (i:=0) (v:=.slice (some ⟨gB,0,none⟩) Bd.length cB) rfl
  have q1:=obj_cell HPO.out (i:=1) (v:=.slice (some ⟨gV,0,none⟩) V.length cV) rfl
  have q2:=obj_cell HPO.out (i:=2) (v:=.slice aX X.length cX) rfl
  have HSD:=hid (fun (c:Nat) (right:Bool) (Y:World) (hf:Fr [] w2 Y) (hc:c < V.length)=>side_any Bd V gB cB Bd.length gV V.length cV c (.slice aX X.length cX) right Y hc HBD.out (HRB.out.fr hf List.not_mem_nil) (HRV.out.fr hf List.not_mem_nil) (HVB.out c).1 (by omega))
  have HVO2:=hid (owns_fr0 HVO.out HF2.out)
  clear rB rV
  by_cases hk0:k=0
  ·subst hk0
   have HXY:=hid (show (x,y)=sideP Bd V (nix o 0) false by rw [HNP.out,if_neg hl0,if_pos rfl])
   have d0:w2.cell? ⟨gO,0,none⟩=some (.int .i64 (nix o 0:Nat)):=by rw [HVO2.out.cellAt 0 (by omega)];exact intsN_at (by rw [← HLO.out];omega)
   have HC:=hid (HOB.out (nix o 0) (nix_mem (by rw [← HLO.out];omega)))
   have hlp:(0:Int) < (lo:Int):=by omega
   have H108:=hid (fun (Y:World) (hf:Fr [] w2 Y)=>HSD.out (nix o 0) false Y hf HC.out)
   rw [← HXY.out] at H108
   dsimp only at H108
   generalize nix o 0=c0 at *
   clear HNP HXY
   go_wp2_with (first | (go_at_call 107;refine (H107.out _).mono ?_;rintro e w' ⟨rfl,rfl⟩))
   go_region_with (first | (go_at_call 108;refine (H108.out _ ?_).mono ?_;exact frz _ _ _ rfl rfl rfl rfl;rintro e w4 ⟨rfl,hf4⟩;have hf4':Fr [] w2 w4:=⟨hf4.os,hf4.tape,hf4.output,hf4.size,hf4.block⟩;have HF4:=hid hf4';have HO24:=hid (obj_fr HO2.out hf4' List.not_mem_nil);have y0:=obj_cell HO24.out (i:=0) (v:=.int .i64 0) rfl;have y1:=obj_cell HO24.out (i:=1) (v:=.bool false) rfl;have g0:=obj_froz HO24.out 0;have g1:=obj_froz HO24.out 1;clear hf4 hf4'))
   all_goals (
    go_wp2_with fail
    refine bodyPost_ret (results_cell_row (t:=55) (fr:=(0,0)) rfl _ _ (w.heap.size + 1) _ _ rfl (HEND.out _ ?h1 _ _) Tryz.underlying55 rfl (by kernel_rfl)) rfl ?_
    case h1=>exact HO24.out
    exact ⟨rfl,HFE.out w4 (HF2.out.trans HF4.out) _ _⟩)
  ·have hk0':((k:Nat):Int) ≠ 0:=by omega
   have hk0b:(((k:Nat):Int) == 0)=false:=by simp;omega
   have HXY:=hid (show (x,y)=sideP Bd V (nix o (k - 1)) true by rw [HNP.out,if_neg hl0,if_neg hk0])
   have hkl':k - 1 < lo:=by omega
   have d0:w2.cell? ⟨gO,k - 1,none⟩=some (.int .i64 (nix o (k - 1):Nat)):=by rw [HVO2.out.cellAt (k - 1) (by omega)];exact intsN_at (by rw [← HLO.out];omega)
   have HC:=hid (HOB.out (nix o (k - 1)) (nix_mem (by rw [← HLO.out];omega)))
   have H108:=hid (fun (Y:World) (hf:Fr [] w2 Y)=>HSD.out (nix o (k - 1)) true Y hf HC.out)
   rw [← HXY.out] at H108
   dsimp only at H108
   obtain ⟨k1,hk1⟩:∃ k1,k1=k - 1:=⟨_,rfl⟩
   rw [← hk1] at d0 H108 HC HXY hkl'
   have hw1:IntKind.i64.wrap ((k:Int) - 1)=(k1:Int):=by rw [IntKind.wrap_i64];omega
   have hk1I:(k1:Int) < (lo:Int):=by omega
   generalize nix o k1=c0 at *
   clear HNP HXY hk1
   go_wp2_with (first | (go_at_call 107;refine (H107.out _).mono ?_;rintro e w' ⟨rfl,rfl⟩))
   go_region_with (first | (go_at_call 108;refine (H108.out _ ?_).mono ?_;exact frz _ _ _ rfl rfl rfl rfl;rintro e w4 ⟨rfl,hf4⟩;have hf4':Fr [] w2 w4:=⟨hf4.os,hf4.tape,hf4.output,hf4.size,hf4.block⟩;have HF4:=hid hf4';have HO24:=hid (obj_fr HO2.out hf4' List.not_mem_nil);have y0:=obj_cell HO24.out (i:=0) (v:=.int .i64 0) rfl;have y1:=obj_cell HO24.out (i:=1) (v:=.bool false) rfl;have g0:=obj_froz HO24.out 0;have g1:=obj_froz HO24.out 1;clear hf4 hf4'))
   all_goals (
    go_wp2_with fail
    refine bodyPost_ret (results_cell_row (t:=55) (fr:=(0,0)) rfl _ _ (w.heap.size + 1) _ _ rfl (HEND.out _ ?h1 _ _) Tryz.underlying55 rfl (by kernel_rfl)) rfl ?_
    case h1=>exact HO24.out
    exact ⟨rfl,HFE.out w4 (HF2.out.trans HF4.out) _ _⟩)
end Go.Proofs.YtnakejhohdbfdaaGreatDoor
namespace Go.Proofs.YtnakejhohdbfdaaGreatDoor
open Go.RowKit Lev Lay Bnd
set_option maxRecDepth 10000 in
set_option maxHeartbeats 4000000 in
theorem hitP_any (B P:Nat) (Bd V X:List Int) (r:Int) (Ls:List Ln) (v0 v1 v2 vL:Value) (hs:List Value) (line x:Int) (w:World) (h:LP w B P Bd V X r Ls v0 v1 v2 vL hs) (T:Tame Bd V Ls) (hbd:Bd.length=V.length + 1) (hv4:V.length ≤ 400) (hK0:0 < Ls.length) (hK:Ls.length ≤ 400) (hlo:∀ l ∈ Ls,l.o.length ≤ 1000) :
 Calls Tryz.prog 63 #[.pointer (some ⟨P,0,none⟩),.int .i64 line,.int .i64 x] w fun e w'=>e=.returned (.agg #[.int .i64 (hitP Bd V Ls line x).1,.bool (hitP Bd V Ls line x).2])∧Fr [] w w':=by
 obtain ⟨i,hi,hiK⟩:=near_nat (x:=line) (m:=Ls.length - 1)
 have hi':near line ((Ls.length:Int) - 1)=(i:Int):=by rw [← hi];congr 1;omega
 have hil:i < Ls.length:=by omega
 have hmem:=lnN_mem hil
 have HHP:=hid (show hitP Bd V Ls line x=normP Bd V Ls (i:Int) (bestTo (lnN Ls i).x x (lnN Ls i).x.length:Nat) by
  unfold hitP;dsimp only;rw [hi',Int.toNat_natCast])
 obtain ⟨U,_,hn⟩:=h.n
 obtain ⟨vO,vX,_,_,_,a4,_,a6,_⟩:=hn i _ (lnN_get hil)
 obtain ⟨gL,cL,hvL⟩:=owns_shape hK0 h.l
 subst hvL
 have hxl:=T.xl _ hmem
 have hlo1:=hlo _ hmem
 obtain ⟨gX,cX,hvX⟩:=owns_shape (by omega) a6
 subst hvX
 have HRX:=hid (show rowAt w gX (lnN Ls i).x.length (lnN Ls i).x from fun j hj=>by rw [a6.cellAt j (by omega),ints64_at hj])
 have hxb:=T.xb _ hmem
 have H106:=hid (fun Y:World=>nearL_any (some ⟨gL,0,none⟩) Ls.length cL line Y hK0 (by omega))
 rw [hi'] at H106
 have H109:=hid (fun (Y:World) (hf:Fr [] w Y)=>gapNear_any (lnN Ls i).x x (nth (lnN Ls i).x ((lnN Ls i).x.length - 1)) gX (lnN Ls i).x.length cX Y rfl (by omega) (by omega) (HRX.out.fr hf List.not_mem_nil) (fun k hk=>⟨(hxb k hk).1,(hxb k hk).2.1⟩) rfl (hxb _ (by omega)).2.2)
 have H61:=hid (fun (Y:World) (hf:Fr [] w Y)=>normP_any B P Bd V X r Ls v0 v1 v2 (.slice (some ⟨gL,0,none⟩) Ls.length cL) hs (i:Int) (bestTo (lnN Ls i).x x (lnN Ls i).x.length:Nat) Y (h.fr hf (fun k hk=>absurd hk List.not_mem_nil)) T hbd hv4 hK0 hK hlo)
 rw [← HHP.out] at H61
 obtain ⟨a,b,hab⟩:∃ a b,hitP Bd V Ls line x=(a,b):=⟨_,_,rfl⟩
 rw [hab] at H61 ⊢
 have c3:w.cell? ⟨gL,i * 4 + 3,none⟩=some (.slice (some ⟨gX,0,none⟩) (lnN Ls i).x.length cX):=by rw [h.l.cellAt _ (by omega)];exact a4
 have p3:=obj_cell h.o (i:=3) (v:=.slice (some ⟨gL,0,none⟩) Ls.length cL) rfl
 obtain ⟨w2,hw2⟩:∃ w2,w2=w.alloc (.cells #[.int .i64 0,.bool false] 55):=⟨_,rfl⟩
 have HF2:=hid (show Fr [] w w2 by rw [hw2];exact (Fr.refl [] w).alloc _)
 have HO2:=hid (show w2.heap[w.heap.size]?=some (.cells #[.int .i64 0,.bool false] 55 (0,0)) by rw [hw2];exact obj_new w _)
 generalize bestTo (lnN Ls i).x x (lnN Ls i).x.length=bx at *
 generalize (lnN Ls i).x.length=lx at *
 have hiI:(i:Int) < (Ls.length:Int):=by omega
 generalize Ls.length=K at *
 have hPl:P < w.heap.size:=World.block_lt_of_cell? _ _ p3
 have hgl:gL < w.heap.size:=World.block_lt_of_cell? _ _ c3
 clear h T hbd hn a4 a6 hi hi' hab hlo hxb hxl hmem HRX HHP
 go_enter Tryz.func63,Tryz.ntmps63
 have HW2:=hid hw2
 clear hw2
 go_wp2_with (first
  | (go_at_call 106;refine (H106.out _).mono ?_;rintro e w' ⟨rfl,rfl⟩)
  | (go_at_call 109;rw [← HW2.out];refine (H109.out _ HF2.out).mono ?_;rintro e w3 ⟨rfl,hf3⟩;have HF3:=hid hf3;clear hf3)
  | (go_at_call 61;refine (H61.out _ (HF2.out.trans HF3.out)).mono ?_;rintro e w4 ⟨rfl,hf4⟩;have HF4:=hid (HF3.out.trans hf4);have HO4:=hid (obj_fr HO2.out (HF3.out.trans hf4) List.not_mem_nil);have z0:=obj_cell HO4.out (i:=0) (v:=.int .i64 0) rfl;have z1:=obj_cell HO4.out (i:=1) (v:=.bool false) rfl;have f0:=obj_froz HO4.out 0;have f1:=obj_froz HO4.out 1;clear hf4))
 have HEND:=hid (show ((w4.setCell ⟨w.heap.size,0,none⟩ (.int .i64 a)).setCell ⟨w.heap.size,1,none⟩ (.bool b)).heap[w.heap.size]?=some (.cells #[.int .i64 a,.bool b] 55 (0,0)) from obj_set (obj_set HO4.out 0 _) 1 _)
 refine bodyPost_ret (results_cell_row (t:=55) (fr:=(0,0)) rfl _ _ w.heap.size _ _ rfl HEND.out Tryz.underlying55 rfl (by kernel_rfl)) rfl ?_
 exact ⟨rfl,(HF2.out.trans HF4.out).behind ((fr_set1 _ _ _ _).set (List.mem_singleton.2 rfl) _) (fun k hk=>by rw [List.mem_singleton.1 hk];exact Nat.le_refl _)⟩
set_option maxRecDepth 10000 in
theorem hitC_any (Q P:Nat) (line x a:Int) (b:Bool) (w:World) (hq:w.cell? ⟨Q,0,none⟩=some (.pointer (some ⟨P,0,none⟩))) (h:∀ Y,Fr [] w Y→Calls Tryz.prog 63 #[.pointer (some ⟨P,0,none⟩),.int .i64 line,.int .i64 x] Y fun e w'=>e=.returned (.agg #[.int .i64 a,.bool b])∧Fr [] Y w') :
 Calls Tryz.prog 25 #[.pointer (some ⟨Q,0,none⟩),.int .i64 line,.int .i64 x] w fun e w'=>e=.returned (.agg #[.int .i64 a,.bool b])∧Fr [] w w':=by
 have HF2:=hid (show Fr [] w (w.alloc (.cells #[.int .i64 0,.bool false] 55)) from (Fr.refl [] w).alloc _)
 have HO2:=hid (obj_new w (.cells #[.int .i64 0,.bool false] 55))
 have H63:=hid (h _ HF2.out)
 have hQl:Q < w.heap.size:=World.block_lt_of_cell? _ _ hq
 clear h
 go_enter Tryz.func25,Tryz.ntmps25
 go_wp2_with (first
  | (go_at_call 63;refine H63.out.mono ?_;rintro e w4 ⟨rfl,hf4⟩;have HF4:=hid hf4;have HO4:=hid (obj_fr HO2.out hf4 List.not_mem_nil);have z0:=obj_cell HO4.out (i:=0) (v:=.int .i64 0) rfl;have z1:=obj_cell HO4.out (i:=1) (v:=.bool false) rfl;have f0:=obj_froz HO4.out 0;have f1:=obj_froz HO4.out 1;clear hf4))
 have HEND:=hid (show ((w4.setCell ⟨w.heap.size,0,none⟩ (.int .i64 a)).setCell ⟨w.heap.size,1,none⟩ (.bool b)).heap[w.heap.size]?=some (.cells #[.int .i64 a,.bool b] 55 (0,0)) from obj_set (obj_set HO4.out 0 _) 1 _)
 refine bodyPost_ret (results_cell_row (t:=55) (fr:=(0,0)) rfl _ _ w.heap.size _ _ rfl HEND.out Tryz.underlying55 rfl (by kernel_rfl)) rfl ?_
 exact ⟨rfl,(HF2.out.trans HF4.out).behind ((fr_set1 _ _ _ _).set (List.mem_singleton.2 rfl) _) (fun k hk=>by rw [List.mem_singleton.1 hk];exact Nat.le_refl _)⟩
end Go.Proofs.YtnakejhohdbfdaaGreatDoor
namespace Go.Proofs.YtnakejhohdbfdaaGreatDoor
open Go.RowKit Lev Lay Bnd
set_option maxRecDepth 10000 in
theorem far_any (a b:Int) (w:World) (ha:0 ≤ a∧a ≤ 1000000000000000) (hb:-9223372036854775808 ≤ b∧b ≤ 9223372036854775807):Calls Tryz.prog 64 #[.int .i64 a,.int .i64 b] w fun e w'=>e=.returned (.int .u64 ((a - b).natAbs:Nat))∧w'=w:=by
 obtain ⟨R,hR⟩:∃ R,R=(a - b).natAbs:=⟨_,rfl⟩
 rw [← hR]
 by_cases h:b < a
 ·have hw:IntKind.u64.wrap (a - IntKind.u64.wrap b)=(R:Int):=by
   simp only [IntKind.wrap_u64]
   omega
  clear hR
  go_enter Tryz.func64,Tryz.ntmps64
  go_wp2
  go_ret
  exact ⟨rfl,rfl⟩
 ·have hw:b - a=(R:Int):=by omega
  have hd:decide (b < a)=false:=by simpa using h
  clear hR
  go_enter Tryz.func64,Tryz.ntmps64
  go_wp2
  go_ret
  exact ⟨rfl,rfl⟩
theorem sideP_even (Bd V:List Int) (c:Nat) (right:Bool):sideP Bd V c right=if (nth V c % 2 == 1)=right then (nth Bd c,false) else (nth Bd (c + 1),true):=by
 unfold sideP
 by_cases h:right=(nth V c % 2 == 1)
 ·rw [if_pos h,if_pos h.symm]
 ·rw [if_neg h,if_neg (fun e=>h e.symm)]
set_option maxRecDepth 10000 in
set_option maxHeartbeats 4000000 in
theorem normD_any (WB:World) (U lb:Nat) (s:ByteArray) (bs:Int) (vC vM:Value) (Bd V X:List Int) (Ls:List Ln) (hm:List Value) (line gap:Int) (w:World) (h:LD WB w U lb s bs vC vM (clP Bd V X V.length) Ls hm) (T:Tame Bd V Ls) (hv4:V.length ≤ 400) (hK0:0 < Ls.length) (hK:Ls.length ≤ 400) (hlo:∀ l ∈ Ls,l.o.length ≤ 1000) :
 Calls Tryz.prog 24 #[.pointer (some ⟨lb,0,none⟩),.agg #[.int .i64 line,.int .i64 gap]] w fun e w'=>e=.returned (.agg #[.int .i64 (normP Bd V Ls line gap).1,.bool (normP Bd V Ls line gap).2])∧Fr [] w w':=by
 obtain ⟨i,hi,hiK⟩:=near_nat (x:=line) (m:=Ls.length - 1)
 have hi':near line ((Ls.length:Int) - 1)=(i:Int):=by rw [← hi];congr 1;omega
 have hil:i < Ls.length:=by omega
 obtain ⟨k,hk,hkl⟩:=near_nat (x:=gap) (m:=(lnN Ls i).o.length)
 have HNP:=hid (show normP Bd V Ls line gap=if (lnN Ls i).o.length=0 then (0,false) else if k=0 then sideP Bd V (nix (lnN Ls i).o 0) false else sideP Bd V (nix (lnN Ls i).o (k - 1)) true by
  unfold normP;dsimp only;rw [hi',Int.toNat_natCast,hk,Int.toNat_natCast])
 obtain ⟨vO,vX,_,_,a3,_,a5,_⟩:=h.inn i _ (lnN_get hil)
 obtain ⟨gL,cL,hvL⟩:=owns_shape hK0 h.ownL
 subst hvL
 obtain ⟨aO,cO,hvO⟩:=owns_slice a5
 subst hvO
 have hob:=T.ob _ (lnN_mem hil)
 have hlo1:=hlo _ (lnN_mem hil)
 have H62:=hid (fun (x hi:Int) (Y:World)=>bound_any x hi Y)
 have HE1:=hid hi'
 have HE2:=hid hk
 have HVB:=hid T.vb
 have HVO:=hid a5
 have HOC:=hid h.ownC
 rw [clP_len] at HOC
 have HOB:=hid hob
 have c3:w.cell? ⟨gL,i * 4 + 2,none⟩=some (.slice aO (lnN Ls i).o.length cO):=by rw [h.ownL.cellAt _ (by omega)];exact a3
 obtain ⟨aC,cC,hvC⟩:=owns_slice HOC.out
 subst hvC
 have HLO:=hid h.obj
 have p3:=obj_cell h.obj (i:=3) (v:=.slice (some ⟨gL,0,none⟩) Ls.length cL) rfl
 have hPl:=obj_lt h.obj
 have hgl:=World.block_lt_of_cell? _ _ c3
 dsimp only at hgl
 obtain ⟨x,y,hxy⟩:∃ x y,normP Bd V Ls line gap=(x,y):=⟨_,_,rfl⟩
 rw [hxy] at HNP ⊢
 obtain ⟨o,ho⟩:∃ o,o=(lnN Ls i).o:=⟨_,rfl⟩
 rw [← ho] at HNP HVO HOB c3 hkl hlo1 HE2
 obtain ⟨lo,hlo'⟩:∃ lo,lo=o.length:=⟨_,rfl⟩
 have HLL:=hid hlo'
 rw [← hlo'] at HNP HVO c3 hkl hlo1 HE2
 obtain ⟨K,hK'⟩:∃ K,K=Ls.length:=⟨_,rfl⟩
 rw [← hK'] at p3 hK0 hK hil HE1
 have HKK:=hid hK'
 obtain ⟨w2,hw2⟩:∃ w2,w2=(w.alloc (.cells #[.int .i64 line,.int .i64 gap] 58)).alloc (.cells #[.int .i64 0,.bool false] 55):=⟨_,rfl⟩
 have HF2:=hid (show Fr [] w w2 by rw [hw2];exact ((Fr.refl [] w).alloc _).alloc _)
 have HO1:=hid (show w2.heap[w.heap.size]?=some (.cells #[.int .i64 line,.int .i64 gap] 58 (0,0)) by rw [hw2];exact obj_fr (obj_new w _) ((Fr.refl [] _).alloc _) List.not_mem_nil)
 have HO2:=hid (show w2.heap[w.heap.size + 1]?=some (.cells #[.int .i64 0,.bool false] 55 (0,0)) by
  have h:=obj_new (w.alloc (.cells #[.int .i64 line,.int .i64 gap] 58)) (.cells #[.int .i64 0,.bool false] 55)
  rw [← hw2] at h;simpa using h)
 have HP2:=hid (HF2.out.cell p3 List.not_mem_nil)
 have HC2:=hid (HF2.out.cell c3 List.not_mem_nil)
 have hiI:(i:Int) < (K:Int):=by omega
 have hwK:IntKind.i64.wrap ((K:Int) - 1)=(K:Int) - 1:=by rw [IntKind.wrap_i64];omega
 clear h T a3 a5 hi hi' hk hxy ho hlo' hK' hob hlo c3 p3
 go_enter Tryz.func24,Tryz.ntmps24
 go_wp2_with fail
 rw [← hw2]
 clear hw2
 have b0:=obj_cell HO1.out (i:=0) (v:=.int .i64 line) rfl
 have b1:=obj_cell HO1.out (i:=1) (v:=.int .i64 gap) rfl
 have p3:=HP2.out
 have c3:=HC2.out
 have HB1:=hid (fun Y:World=>(by have h:=H62.out line ((K:Int) - 1) Y;rw [HE1.out] at h;exact h:Calls Tryz.prog 62 #[.int .i64 line,.int .i64 ((K:Int) - 1)] Y fun e w'=>e=.returned (.int .i64 (i:Int))∧w'=Y))
 have HB2:=hid (fun Y:World=>(by have h:=H62.out gap (lo:Int) Y;rw [HE2.out] at h;exact h:Calls Tryz.prog 62 #[.int .i64 gap,.int .i64 (lo:Int)] Y fun e w'=>e=.returned (.int .i64 (k:Int))∧w'=Y))
 have z0:=obj_cell HO2.out (i:=0) (v:=.int .i64 0) rfl
 have z1:=obj_cell HO2.out (i:=1) (v:=.bool false) rfl
 have f0:=obj_froz HO2.out 0
 have f1:=obj_froz HO2.out 1
 have HEND:=hid (fun (Y:World) (hY:Y.heap[w.heap.size + 1]?=some (.cells #[.int .i64 0,.bool false] 55 (0,0))) (x:Int) (y:Bool)=>(show ((Y.setCell ⟨w.heap.size + 1,0,none⟩ (.int .i64 x)).setCell ⟨w.heap.size + 1,1,none⟩ (.bool y)).heap[w.heap.size + 1]?=some (.cells #[.int .i64 x,.bool y] 55 (0,0)) from obj_set (obj_set hY 0 _) 1 _))
 have HFE:=hid (fun (Y:World) (hY:Fr [] w Y) (x:Int) (y:Bool)=>(show Fr [] w ((Y.setCell ⟨w.heap.size + 1,0,none⟩ (.int .i64 x)).setCell ⟨w.heap.size + 1,1,none⟩ (.bool y)) from hY.behind ((fr_set1 _ _ _ _).set (List.mem_singleton.2 rfl) _) (fun k hk=>by rw [List.mem_singleton.1 hk];omega)))
 go_quiet (first | (go_at_call 62;exact Calls.quiet_of_same (HB1.out _)))
 obtain ⟨wq,hwq⟩:∃ wq,wq=w2.drewN nq:=⟨_,rfl⟩
 rw [← hwq]
 have HFq:=hid (show Fr [] w wq by rw [hwq];exact HF2.out.trans (fr_drewN _ _))
 have HOq:=hid (show wq.heap[w.heap.size + 1]?=some (.cells #[.int .i64 0,.bool false] 55 (0,0)) by rw [hwq];exact HO2.out)
 have HOq1:=hid (show wq.heap[w.heap.size]?=some (.cells #[.int .i64 line,.int .i64 gap] 58 (0,0)) by rw [hwq];exact HO1.out)
 have HPq:=hid (show wq.cell? ⟨lb,3,none⟩=some (.slice (some ⟨gL,0,none⟩) K cL) by rw [hwq];exact HP2.out)
 have HCq:=hid (show wq.cell? ⟨gL,i * 4 + 2,none⟩=some (.slice aO lo cO) by rw [hwq];exact HC2.out)
 clear hwq b0 b1 p3 c3 z0 z1 f0 f1
 have b0:=obj_cell HOq1.out (i:=0) (v:=.int .i64 line) rfl
 have b1:=obj_cell HOq1.out (i:=1) (v:=.int .i64 gap) rfl
 have p3:=HPq.out
 have c3:=HCq.out
 have z0:=obj_cell HOq.out (i:=0) (v:=.int .i64 0) rfl
 have z1:=obj_cell HOq.out (i:=1) (v:=.bool false) rfl
 have f0:=obj_froz HOq.out 0
 have f1:=obj_froz HOq.out 1
 by_cases hl0:lo=0
 ·subst hl0
  have HXY:=hid (show (x,y)=((0:Int),false) by rw [HNP.out,if_pos rfl])
  obtain ⟨rfl,rfl⟩:=Prod.mk.inj HXY.out
  clear HNP HXY
  go_wp2_with (first | (go_at_call 62;refine (HB2.out _).mono ?_;rintro e w' ⟨rfl,hw'⟩;obtain rfl:wq=w':=hw'.symm))
  refine bodyPost_ret (results_cell_row (t:=55) (fr:=(0,0)) rfl _ _ (w.heap.size + 1) _ _ rfl (HEND.out _ ?h1 _ _) Tryz.underlying55 rfl (by kernel_rfl)) rfl ?_
  case h1=>exact HOq.out
  exact ⟨rfl,HFE.out wq HFq.out _ _⟩
 ·have hl0':((lo:Nat):Int) ≠ 0:=by omega
  have hl0b:(((lo:Nat):Int) == 0)=false:=by simp;omega
  obtain ⟨gO,cO',hvO⟩:=owns_shape (by omega) HVO.out
  cases hvO
  have hvp:0 < V.length:=by
   have:=HOB.out (nix o 0) (nix_mem (by rw [← HLL.out];omega));omega
  obtain ⟨gC,cC',hvC⟩:=owns_shape hvp HOC.out
  cases hvC
  have HVO2:=hid (owns_fr0 HVO.out HFq.out)
  have HOC2:=hid (owns_fr0 HOC.out HFq.out)
  have HL2:=hid (obj_fr HLO.out HFq.out List.not_mem_nil)
  have q2:=obj_cell HL2.out (i:=2) (v:=.slice (some ⟨gC,0,none⟩) V.length cC) rfl
  have HSE:=hid (sideP_even Bd V)
  have HENA:=hid (fun (x:Int) (y:Bool) (ob:Obj)=>obj_fr (HEND.out wq HOq.out x y) (((Fr.refl [] _).alloc ob).drew) List.not_mem_nil)
  have HFA:=hid (fun (x:Int) (y:Bool) (ob:Obj)=>((HFE.out wq HFq.out x y).alloc ob).drew)
  by_cases hk0:k=0
  ·subst hk0
   obtain ⟨c0,hc0⟩:∃ c0,c0=nix o 0:=⟨_,rfl⟩
   have HXY:=hid (show (x,y)=if (nth V c0 % 2 == 1)=false then (nth Bd c0,false) else (nth Bd (c0 + 1),true) by rw [HNP.out,if_neg hl0,if_pos rfl,← hc0,HSE.out])
   have d0:wq.cell? ⟨gO,0,none⟩=some (.int .i64 (c0:Nat)):=by rw [hc0,HVO2.out.cellAt 0 (by omega)];exact intsN_at (by rw [← HLL.out];omega)
   have hcV:c0 < V.length:=by rw [hc0];exact HOB.out (nix o 0) (nix_mem (by rw [← HLL.out];omega))
   obtain ⟨e0,e1,e2,e3⟩:=clCells_at _ c0 _ (clP_at Bd V X hcV)
   have y0:wq.cell? ⟨gC,c0 * 4,none⟩=some (.int .i64 (nth Bd c0)):=by rw [HOC2.out.cellAt _ (by omega)];exact e0
   have y1:wq.cell? ⟨gC,c0 * 4 + 1,none⟩=some (.int .i64 (nth Bd (c0 + 1))):=by rw [HOC2.out.cellAt _ (by omega)];exact e1
   have y2:wq.cell? ⟨gC,c0 * 4 + 2,none⟩=some (.int .i64 (nth V c0)):=by rw [HOC2.out.cellAt _ (by omega)];exact e2
   have y3:wq.cell? ⟨gC,c0 * 4 + 3,none⟩=some (.int .i64 (nth X c0)):=by rw [HOC2.out.cellAt _ (by omega)];exact e3
   have hlv:=(HVB.out c0).1
   have hlp:(0:Int) < (lo:Int):=by omega
   have hcI:(c0:Int) < (V.length:Int):=by omega
   generalize nth Bd c0=x0 at *
   generalize nth Bd (c0 + 1)=x1 at *
   generalize nth V c0=lv at *
   generalize nth X c0=x3 at *
   clear e0 e1 e2 e3 hc0 HNP
   have hgC:gC < wq.heap.size:=World.block_lt_of_cell? _ _ y0
   have hgO:gO < wq.heap.size:=World.block_lt_of_cell? _ _ d0
   have hlb2:lb < wq.heap.size:=World.block_lt_of_cell? _ _ q2
   have hrb:w.heap.size + 1 < wq.heap.size:=World.block_lt_of_cell? _ _ z0
   have hlm:lv % 2=0∨lv % 2=1:=by omega
   have hlpN:0 < lo:=by omega
   have hn1:gO ≠ wq.heap.size:=by omega
   have hn2:gC ≠ wq.heap.size:=by omega
   have hn3:lb ≠ wq.heap.size:=by omega
   go_wp2_with (first | (go_at_call 62;refine (HB2.out _).mono ?_;rintro e w' ⟨rfl,hw'⟩;obtain rfl:wq=w':=hw'.symm))
   go_region
   rcases hlm with hlm | hlm
   ·have HXY2:=hid (show x=x0∧y=false by have e:=HXY.out;rw [hlm] at e;exact Prod.mk.inj e)
    obtain ⟨rfl,rfl⟩:=HXY2.out
    clear HXY HXY2
    go_wp2_with fail
    refine bodyPost_ret (results_cell_row (t:=55) (fr:=(0,0)) rfl _ _ (w.heap.size + 1) _ _ rfl (HENA.out _ _ _) Tryz.underlying55 rfl (by kernel_rfl)) rfl ?_
    exact ⟨rfl,HFA.out _ _ _⟩
   ·have HXY2:=hid (show x=x1∧y=true by have e:=HXY.out;rw [hlm] at e;exact Prod.mk.inj e)
    obtain ⟨rfl,rfl⟩:=HXY2.out
    clear HXY HXY2
    go_wp2_with fail
    refine bodyPost_ret (results_cell_row (t:=55) (fr:=(0,0)) rfl _ _ (w.heap.size + 1) _ _ rfl (HENA.out _ _ _) Tryz.underlying55 rfl (by kernel_rfl)) rfl ?_
    exact ⟨rfl,HFA.out _ _ _⟩
  ·have hk0':((k:Nat):Int) ≠ 0:=by omega
   have hk0b:(((k:Nat):Int) == 0)=false:=by simp;omega
   obtain ⟨k1,hk1⟩:∃ k1,k1=k - 1:=⟨_,rfl⟩
   have hw1:IntKind.i64.wrap ((k:Int) - 1)=(k1:Int):=by rw [IntKind.wrap_i64];omega
   have hk1I:(k1:Int) < (lo:Int):=by omega
   have hk1N:k1 < lo:=by omega
   obtain ⟨c0,hc0⟩:∃ c0,c0=nix o k1:=⟨_,rfl⟩
   have HXY:=hid (show (x,y)=if (nth V c0 % 2 == 1)=true then (nth Bd c0,false) else (nth Bd (c0 + 1),true) by rw [HNP.out,if_neg hl0,if_neg hk0,← hk1,← hc0,HSE.out])
   have d0:wq.cell? ⟨gO,k1,none⟩=some (.int .i64 (c0:Nat)):=by rw [hc0,HVO2.out.cellAt k1 (by omega)];exact intsN_at (by rw [← HLL.out];omega)
   have hcV:c0 < V.length:=by rw [hc0];exact HOB.out (nix o k1) (nix_mem (by rw [← HLL.out];omega))
   obtain ⟨e0,e1,e2,e3⟩:=clCells_at _ c0 _ (clP_at Bd V X hcV)
   have y0:wq.cell? ⟨gC,c0 * 4,none⟩=some (.int .i64 (nth Bd c0)):=by rw [HOC2.out.cellAt _ (by omega)];exact e0
   have y1:wq.cell? ⟨gC,c0 * 4 + 1,none⟩=some (.int .i64 (nth Bd (c0 + 1))):=by rw [HOC2.out.cellAt _ (by omega)];exact e1
   have y2:wq.cell? ⟨gC,c0 * 4 + 2,none⟩=some (.int .i64 (nth V c0)):=by rw [HOC2.out.cellAt _ (by omega)];exact e2
   have y3:wq.cell? ⟨gC,c0 * 4 + 3,none⟩=some (.int .i64 (nth X c0)):=by rw [HOC2.out.cellAt _ (by omega)];exact e3
   have hlv:=(HVB.out c0).1
   have hlp:(0:Int) < (lo:Int):=by omega
   have hcI:(c0:Int) < (V.length:Int):=by omega
   generalize nth Bd c0=x0 at *
   generalize nth Bd (c0 + 1)=x1 at *
   generalize nth V c0=lv at *
   generalize nth X c0=x3 at *
   clear e0 e1 e2 e3 hc0 HNP hk1
   have hgC:gC < wq.heap.size:=World.block_lt_of_cell? _ _ y0
   have hgO:gO < wq.heap.size:=World.block_lt_of_cell? _ _ d0
   have hlb2:lb < wq.heap.size:=World.block_lt_of_cell? _ _ q2
   have hrb:w.heap.size + 1 < wq.heap.size:=World.block_lt_of_cell? _ _ z0
   have hlm:lv % 2=0∨lv % 2=1:=by omega
   have hlpN:0 < lo:=by omega
   have hn1:gO ≠ wq.heap.size:=by omega
   have hn2:gC ≠ wq.heap.size:=by omega
   have hn3:lb ≠ wq.heap.size:=by omega
   go_wp2_with (first | (go_at_call 62;refine (HB2.out _).mono ?_;rintro e w' ⟨rfl,hw'⟩;obtain rfl:wq=w':=hw'.symm))
   go_region
   rcases hlm with hlm | hlm
   ·have HXY2:=hid (show x=x1∧y=true by have e:=HXY.out;rw [hlm] at e;exact Prod.mk.inj e)
    obtain ⟨rfl,rfl⟩:=HXY2.out
    clear HXY HXY2
    go_wp2_with fail
    refine bodyPost_ret (results_cell_row (t:=55) (fr:=(0,0)) rfl _ _ (w.heap.size + 1) _ _ rfl (HENA.out _ _ _) Tryz.underlying55 rfl (by kernel_rfl)) rfl ?_
    exact ⟨rfl,HFA.out _ _ _⟩
   ·have HXY2:=hid (show x=x0∧y=false by have e:=HXY.out;rw [hlm] at e;exact Prod.mk.inj e)
    obtain ⟨rfl,rfl⟩:=HXY2.out
    clear HXY HXY2
    go_wp2_with fail
    refine bodyPost_ret (results_cell_row (t:=55) (fr:=(0,0)) rfl _ _ (w.heap.size + 1) _ _ rfl (HENA.out _ _ _) Tryz.underlying55 rfl (by kernel_rfl)) rfl ?_
    exact ⟨rfl,HFA.out _ _ _⟩
end Go.Proofs.YtnakejhohdbfdaaGreatDoor
namespace Go.Proofs.YtnakejhohdbfdaaGreatDoor
open Go.RowKit Lev Lay Bnd
set_option maxRecDepth 10000 in
set_option maxHeartbeats 4000000 in
theorem hitD_any (WB:World) (U lb:Nat) (s:ByteArray) (bs:Int) (vC vM:Value) (Bd V X:List Int) (Ls:List Ln) (hm:List Value) (line x:Int) (w:World) (h:LD WB w U lb s bs vC vM (clP Bd V X V.length) Ls hm) (T:Tame Bd V Ls) (hv4:V.length ≤ 400) (hK0:0 < Ls.length) (hK:Ls.length ≤ 400) (hlo:∀ l ∈ Ls,l.o.length ≤ 1000) (hx:-9223372036854775808 ≤ x∧x ≤ 9223372036854775807) :
 Calls Tryz.prog 26 #[.pointer (some ⟨lb,0,none⟩),.int .i64 line,.int .i64 x] w fun e w'=>e=.returned (.agg #[.int .i64 (hitP Bd V Ls line x).1,.bool (hitP Bd V Ls line x).2])∧Fr [] w w':=by
 obtain ⟨i,hi,hiK⟩:=near_nat (x:=line) (m:=Ls.length - 1)
 have hi':near line ((Ls.length:Int) - 1)=(i:Int):=by rw [← hi];congr 1;omega
 have hil:i < Ls.length:=by omega
 have hmem:=lnN_mem hil
 have HHP:=hid (show hitP Bd V Ls line x=normP Bd V Ls (i:Int) (bestTo (lnN Ls i).x x (lnN Ls i).x.length:Nat) by
  unfold hitP;dsimp only;rw [hi',Int.toNat_natCast])
 obtain ⟨vO,vX,_,_,_,a4,_,a6,_⟩:=h.inn i _ (lnN_get hil)
 obtain ⟨gL,cL,hvL⟩:=owns_shape hK0 h.ownL
 subst hvL
 have hxl:=T.xl _ hmem
 have hlo1:=hlo _ hmem
 obtain ⟨gX,cX,hvX⟩:=owns_shape (by omega) a6
 subst hvX
 have HRX:=hid (show rowAt w gX (lnN Ls i).x.length (lnN Ls i).x from fun j hj=>by rw [a6.cellAt j (by omega),ints64_at hj])
 have HXB:=hid (T.xb _ hmem)
 have HB1:=hid (fun Y:World=>(by have h:=bound_any line ((Ls.length:Int) - 1) Y;rw [hi'] at h;exact h:Calls Tryz.prog 62 #[.int .i64 line,.int .i64 ((Ls.length:Int) - 1)] Y fun e w'=>e=.returned (.int .i64 (i:Int))∧w'=Y))
 have H64:=hid (fun (a:Int) (Y:World) (ha:0 ≤ a∧a ≤ 1000000000000000)=>far_any a x Y ha hx)
 have H24:=hid (fun (Y:World) (hf:Fr [] w Y)=>normD_any WB U lb s bs vC (.slice (some ⟨gL,0,none⟩) Ls.length cL) Bd V X Ls hm (i:Int) (bestTo (lnN Ls i).x x (lnN Ls i).x.length:Nat) Y (h.fr0 hf) T hv4 hK0 hK hlo)
 rw [← HHP.out] at H24
 obtain ⟨a,b,hab⟩:∃ a b,hitP Bd V Ls line x=(a,b):=⟨_,_,rfl⟩
 rw [hab] at H24 ⊢
 have c3:w.cell? ⟨gL,i * 4 + 3,none⟩=some (.slice (some ⟨gX,0,none⟩) (lnN Ls i).x.length cX):=by rw [h.ownL.cellAt _ (by omega)];exact a4
 have p3:=obj_cell h.obj (i:=3) (v:=.slice (some ⟨gL,0,none⟩) Ls.length cL) rfl
 obtain ⟨w2,hw2⟩:∃ w2,w2=w.alloc (.cells #[.int .i64 0,.bool false] 55):=⟨_,rfl⟩
 have HF2:=hid (show Fr [] w w2 by rw [hw2];exact (Fr.refl [] w).alloc _)
 have HO2:=hid (show w2.heap[w.heap.size]?=some (.cells #[.int .i64 0,.bool false] 55 (0,0)) by rw [hw2];exact obj_new w _)
 have HP3:=hid (HF2.out.cell p3 List.not_mem_nil)
 have HC3:=hid (HF2.out.cell c3 List.not_mem_nil)
 have HRX2:=hid (HRX.out.fr HF2.out List.not_mem_nil)
 have hwK:IntKind.i64.wrap ((Ls.length:Int) - 1)=(Ls.length:Int) - 1:=by rw [IntKind.wrap_i64];omega
 have hiI:(i:Int) < (Ls.length:Int):=by omega
 have hPl:lb < w.heap.size:=World.block_lt_of_cell? _ _ p3
 obtain ⟨L,hL⟩:∃ L,L=(lnN Ls i).x:=⟨_,rfl⟩
 rw [← hL] at H24 HC3 HRX2 HXB c3 hxl
 obtain ⟨lx,hlx⟩:∃ lx,lx=L.length:=⟨_,rfl⟩
 have HLX:=hid hlx
 rw [← hlx] at H24 HC3 HRX2 HXB c3 hxl
 have hlx1:lx ≤ 1001:=by omega
 have hlx0:0 < lx:=by omega
 generalize Ls.length=K at *
 clear h T hv4 a4 a6 hi hi' hab hlo hxl hmem HRX HHP c3 hL hlx
 go_enter Tryz.func26,Tryz.ntmps26
 have HW2:=hid hw2
 clear hw2
 go_wp2_with (first | (go_at_call 62;refine (HB1.out _).mono ?_;rintro e w' ⟨rfl,rfl⟩))
 rw [← HW2.out]
 go_loopw [8,9] (fun vb vk wr=>∃ k:Nat,vk=.int .i64 k∧k ≤ lx∧vb=.int .i64 (bestTo L x k:Nat)∧wr=w2) (fun _ vk _=>lx - (intOf vk).toNat)
 case atStart=>exact ⟨0,rfl,Nat.zero_le _,rfl,rfl⟩
 case round =>
  obtain ⟨k,rfl,hk,rfl,hwr⟩:=hrel
  obtain rfl:w2=wr:=hwr.symm
  have p3':=HP3.out
  have c3:=HC3.out
  by_cases hlt:k < lx
  ·have hkI:(k:Int) < (lx:Int):=by omega
   have HBL:=hid (show bestTo L x k < lx by
    rcases Nat.eq_zero_or_pos k with h | h
    ·subst h;exact hlx0
    ·have:=bestTo_lt L x k h;omega)
   have HST:=hid (show bestTo L x (k + 1)=if (nth L k - x).natAbs < (nth L (bestTo L x k) - x).natAbs then k else bestTo L x k from rfl)
   have c1:=HRX2.out k hlt
   have c2:=HRX2.out _ HBL.out
   have b1:=HXB.out k hlt
   have b2:=HXB.out _ HBL.out
   have hBI:((bestTo L x k:Nat):Int) < (lx:Int):=by have:=HBL.out;omega
   obtain ⟨B2,hB2⟩:∃ B2,B2=bestTo L x (k + 1):=⟨_,rfl⟩
   rw [← hB2] at HST
   have HBB:=hid hB2
   clear hB2
   generalize bestTo L x k=B1 at *
   generalize nth L k=y1 at *
   generalize nth L B1=y2 at *
   have H1:=hid (fun Y:World=>H64.out y1 Y ⟨b1.1,b1.2.2⟩)
   have H2:=hid (fun Y:World=>H64.out y2 Y ⟨b2.1,b2.2.2⟩)
   obtain ⟨d1,hd1⟩:∃ d1,d1=(y1 - x).natAbs:=⟨_,rfl⟩
   obtain ⟨d2,hd2⟩:∃ d2,d2=(y2 - x).natAbs:=⟨_,rfl⟩
   rw [← hd1] at H1 HST
   rw [← hd2] at H2 HST
   have HDB:=hid (show d1 < 18446744073709551616∧d2 < 18446744073709551616 by omega)
   clear hd1 hd2 b1 b2 H64
   by_cases hc:d1 < d2
   ·have hcI:(d1:Int) < (d2:Int):=by omega
    have HB2:=hid (show B2=k by rw [HST.out,if_pos hc])
    clear HST
    go_wp2_with fail
    refine (H1.out _).mono ?_
    rintro e w' ⟨rfl,hw'⟩
    obtain rfl:w2=w':=hw'.symm
    go_wp2_with fail
    refine (H2.out _).mono ?_
    rintro e w' ⟨rfl,hw'⟩
    obtain rfl:w2=w':=hw'.symm
    go_wp2
    go_roundw
    case rel=>exact ⟨k + 1,by go_num,by omega,by rw [← HBB.out,HB2.out],trivial⟩
    case measure=>simp [intOf];omega
   ·have hcI:¬ (d1:Int) < (d2:Int):=by omega
    have hcd:decide ((d1:Int) < (d2:Int))=false:=by simpa using hcI
    have HB2:=hid (show B2=B1 by rw [HST.out,if_neg hc])
    clear HST
    go_wp2_with fail
    refine (H1.out _).mono ?_
    rintro e w' ⟨rfl,hw'⟩
    obtain rfl:w2=w':=hw'.symm
    go_wp2_with fail
    refine (H2.out _).mono ?_
    rintro e w' ⟨rfl,hw'⟩
    obtain rfl:w2=w':=hw'.symm
    go_wp2
    go_roundw
    case rel=>exact ⟨k + 1,by go_num,by omega,by rw [← HBB.out,HB2.out],trivial⟩
    case measure=>simp [intOf];omega
  ·obtain rfl:k=lx:=by omega
   have hkI:¬ (k:Int) < (k:Int):=by omega
   go_wp2_with fail
   refine (H24.out _ HF2.out).mono ?_
   rintro e w4 ⟨rfl,hf4⟩
   have HF4:=hid hf4
   have HO4:=hid (obj_fr HO2.out hf4 List.not_mem_nil)
   have z0:=obj_cell HO4.out (i:=0) (v:=.int .i64 0) rfl
   have z1:=obj_cell HO4.out (i:=1) (v:=.bool false) rfl
   have f0:=obj_froz HO4.out 0
   have f1:=obj_froz HO4.out 1
   clear hf4
   go_wp2_with fail
   have HEND:=hid (show ((w4.setCell ⟨w.heap.size,0,none⟩ (.int .i64 a)).setCell ⟨w.heap.size,1,none⟩ (.bool b)).heap[w.heap.size]?=some (.cells #[.int .i64 a,.bool b] 55 (0,0)) from obj_set (obj_set HO4.out 0 _) 1 _)
   refine bodyPost_ret (results_cell_row (t:=55) (fr:=(0,0)) rfl _ _ w.heap.size _ _ rfl HEND.out Tryz.underlying55 rfl (by kernel_rfl)) rfl ?_
   exact ⟨rfl,(HF2.out.trans HF4.out).behind ((fr_set1 _ _ _ _).set (List.mem_singleton.2 rfl) _) (fun k hk=>by rw [List.mem_singleton.1 hk];exact Nat.le_refl _)⟩
end Go.Proofs.YtnakejhohdbfdaaGreatDoor

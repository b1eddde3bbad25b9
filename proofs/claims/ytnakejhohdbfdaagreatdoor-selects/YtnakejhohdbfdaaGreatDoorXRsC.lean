import Derived.Test.YtnakejhohdbfdaaGreatDoorXMd
namespace Go.Proofs.YtnakejhohdbfdaaGreatDoor
open Go.RowKit Lev
theorem bec_step (K:List Int)(I:List Nat)(v:Int)(f j:Nat)(C:List Int)(h:I.length≤j+f)(hj:j<I.length)(h8:nth K (nix I j)=8) :
 ∃f',I.length≤j+1+f'∧becTo K I v f j C=becTo K I v f' (j+1) (put I C j v):=by
 cases f with
 | zero=>omega
 | succ f=>exact⟨f,by omega,by rw[becTo,if_pos ⟨hj,h8⟩]⟩
theorem bec_stop (K:List Int)(I:List Nat)(v:Int)(f j:Nat)(C:List Int)(h:¬(j<I.length∧nth K (nix I j)=8)):becTo K I v f j C=C:=by
 cases f with
 | zero=>rfl
 | succ f=>rw[becTo,if_neg h]
set_option maxHeartbeats 2000000 in
theorem ref41_any (q:PH)(C L:List Int)(G:List Bool)(bI cI:Nat)(s:Sq)(k:Nat)(v:Int)(w:World)(hs:PS w q C L G)(hI:IS w q bI s.I)(hk:k<s.I.length) :
 Calls Tryz.prog 93 #[.pointer (some ⟨q.p,0,none⟩),sqV bI cI s,.int .i64 k,.int .i64 v] w fun e w'=>e=.returned (.tuple #[])∧PS w' q (become q.K s.I k v C) L G∧Fr [q.bC] w w':=by
 have c2:=hs.c2;have lp:=hs.lt;have rI:=hI.r k hk;have hlt:=hI.lt k hk;have rC:=hs.rC _ hlt;have lI:=World.block_lt_of_cell? _ _ rI;have lC:=World.block_lt_of_cell? _ _ rC;have fC:=hs.sC _ hlt;have nC:=hs.neC.1;have nI:=hI.ne.1;have sm:=hI.sm;obtain⟨I,own,bef,aft⟩:=s;dsimp only[sqV]at *;have HS:=hid hs;have HI:=hid hI;obtain⟨R,hR⟩:∃R,R=become q.K I k v C:=⟨_,rfl⟩;have HR:=hid hR;rw[←hR];obtain⟨m,hm⟩:∃m,m=I.length:=⟨_,rfl⟩;have HM:=hid hm;have HI1:=hid ((HS.out.setC hlt v).alloc (.cells #[.slice (some ⟨bI,0,none⟩) m cI,.int .i64 own,.int .i64 bef,.int .i64 aft] 101)).drew;have HF1:=hid ((((Fr.refl [q.bC] w).set (i:=nix I k) (List.mem_singleton.2 rfl) (.int .i64 v)).alloc (.cells #[.slice (some ⟨bI,0,none⟩) m cI,.int .i64 own,.int .i64 bef,.int .i64 aft] 101)).drew);rw[←hm];have hk2:k<m:=by rw[hm];exact hk
 have sm2:m≤1000000:=by rw[hm];exact sm
 clear hm hR hk sm;generalize hi:nix I k=i at *;have HIX:=hid hi;generalize nth C i=y at *;clear hs hI hi;go_enter Tryz.func93,Tryz.ntmps93;go_wp2;go_region;go_wp2
 have HX0:=hid (show(((w.setCell ⟨q.bC,i,none⟩ (.int .i64 v)).alloc (.cells #[.slice (some ⟨bI,0,none⟩) m cI,.int .i64 own,.int .i64 bef,.int .i64 aft] 101)).drew).cell? ⟨w.heap.size,0,none⟩=some (.slice (some ⟨bI,0,none⟩) m cI) by
  rw[World.cell?_drew,World.cell?_alloc_at _ _ _ _ (by simp)];rfl)
 go_loopw [8] (fun a wr=>∃(j f:Nat) (C':List Int),a=.int .i64 j∧j≤m∧Hid (m≤j+f)∧Hid (R=becTo q.K I v f j C')∧Hid (PS wr q C' L G)∧Hid (Fr [q.bC] w wr)∧wr.cell? ⟨w.heap.size,0,none⟩=some (.slice (some ⟨bI,0,none⟩) m cI)) (fun a _=>m - (intOf a).toNat)
 case atStart =>
  exact⟨k+1,m,_,by go_num,by omega,hid (by omega),hid (by rw[HR.out,become,←HM.out,←HIX.out]),HI1,HF1,HX0.out⟩
 case round =>
  obtain⟨j,f,C',rfl,hj,HF,HRR,HP,HFR,hx⟩:=hrel;have d1:=HP.out.c1;have d2:=HP.out.c2;have lp2:=HP.out.lt;by_cases hlt2:j<m
  ·have e1:=(HI.out.fr HFR.out (fun h=>nI (List.mem_singleton.1 h))).r j (by rw[←HM.out];exact hlt2)
   have hb:=HI.out.lt j (by rw[←HM.out];exact hlt2);have e2:=HP.out.rF _ hb;have e3:=HP.out.rC _ hb;have e4:=HP.out.sC _ hb;have hi1:(j:Int)<(m:Int):=by omega
   have H8:=hid (bec_step q.K I v f j C' (by rw[←HM.out];exact HF.out) (by rw[←HM.out];exact hlt2));have H9:=hid (bec_stop q.K I v f j C');have HPS:=hid (fun z=>(HP.out.setC hb z));generalize hij:nix I j=ij at *;have HIJ:=hid hij;clear hij;generalize nth q.K ij=y8 at *;generalize nth C' ij=yc at *;by_cases h8:y8=8
   ·subst h8
    go_wp2;go_quiet (fail);go_wp2;go_region;go_wp2;obtain⟨f',hf',he⟩:=H8.out trivial;go_roundw
    case rel=>exact⟨j+1,f',_,by go_num,by omega,hid (by rw[HM.out];exact hf'),hid (HRR.out.trans he),hid (by rw[put,HIJ.out];exact(HPS.out v).drewN _ |>.drew),hid (((HFR.out.set (List.mem_singleton.2 rfl) _).drewN _).drew),by rw[cell_far _ _ _ _ _ _ (by omega)];exact hx⟩
    case measure=>simp[intOf];omega
   ·go_wp2
    go_quiet (fail);go_wp2;go_end0;exact⟨rfl,by rw[HRR.out,H9.out (fun h=>h8 h.2)];exact HP.out.drewN _,HFR.out.drewN _⟩
  ·have hi1:decide ((j:Int)<(m:Int))=false:=by simp;omega
   go_wp2;go_quiet (fail);go_wp2;go_end0;exact⟨rfl,by rw[HRR.out,bec_stop _ _ _ _ _ _ (fun h=>hlt2 (by rw[HM.out];exact h.1))];exact HP.out.drewN _,HFR.out.drewN _⟩
theorem raise_step (K C:List Int)(base:Int)(i:Nat)(L:List Int):raiseTo K C base (i+1) L =
 if gone (nth K i)then((raiseTo K C base i L).1,(raiseTo K C base i L).2.set i (raiseTo K C base i L).1)
 else(nth (raiseTo K C base i L).2 i+up (nth (raiseTo K C base i L).2 i) (nth C i),(raiseTo K C base i L).2.set i (nth (raiseTo K C base i L).2 i+up (nth (raiseTo K C base i L).2 i) (nth C i))):=rfl
theorem up_facts (l c:Int):(l % 2=1→(c=0∨c=3∨c=6)→up l c=1)∧(l % 2=1→¬(c=0∨c=3∨c=6)→up l c=0) ∧
 (¬l % 2=1→c=1→up l c=1)∧(¬l % 2=1→(c=3∨c=6)→up l c=2)∧(¬l % 2=1→¬c=1→¬(c=3∨c=6)→up l c=0):=by
 refine⟨fun h k=>?_,fun h k=>?_,fun h k=>?_,fun h k=>?_,fun h k j=>?_⟩
 ·rw[up,if_pos h,if_pos k]
 ·rw[up,if_pos h,if_neg k]
 ·rw[up,if_neg h,if_pos k]
 ·rw[up,if_neg h,if_neg (by omega),if_pos k]
 ·rw[up,if_neg h,if_neg k,if_neg j]
def small (L:List Int):Prop:=∀i,0≤nth L i∧nth L i≤1000
set_option maxRecDepth 10000 in
set_option maxHeartbeats 4000000 in
theorem ref19_any (q:PH)(C L:List Int)(G:List Bool)(w:World)(hs:PS w q C L G)(hn:q.n≤1000000)(hG:∀i,i<q.n→G[i]?.getD false=gone (nth q.K i))(hL:small L) :
 Calls Tryz.prog 50 #[.pointer (some ⟨q.p,0,none⟩)] w fun e w'=>e=.returned (.tuple #[])∧PS w' q C (raiseTo q.K C q.base q.n L).2 G∧Fr [q.bL] w w':=by
 have c6:=hs.c6;have HS:=hid hs;have HL:=hid hL;have HG:=hid hG;clear hs hL hG;go_enter Tryz.func50,Tryz.ntmps50;go_wp2;go_loopw [2,3] (fun a b wr=>∃(i:Nat),a=.int .i64 (raiseTo q.K C q.base i L).1∧b=.int .i64 i∧i≤q.n∧Hid (PS wr q C (raiseTo q.K C q.base i L).2 G)∧Hid (Fr [q.bL] w wr)∧Hid (∀j,i≤j→nth (raiseTo q.K C q.base i L).2 j=nth L j)) (fun _ b _=>q.n - (intOf b).toNat)
 case atStart=>exact⟨0,rfl,rfl,Nat.zero_le _,HS,hid (Fr.refl _ _),hid (fun _ _=>rfl)⟩
 case round =>
  obtain⟨i,rfl,rfl,hi,HP,HF,HK⟩:=hrel;have d2:=HP.out.c2;by_cases hlt:i<q.n
  ·have d3:=HP.out.c3
   have d5:=HP.out.c5;have e1:=HP.out.rG i hlt;rw[HG.out i hlt]at e1;have e2:=HP.out.rC i hlt;have e3:=HP.out.rL i hlt;have e4:=HP.out.sL i hlt;have hb:=HL.out i;rw[←HK.out i (Nat.le_refl _)]at hb;have HST:=hid (raise_step q.K C q.base i L);have HSL:=hid (fun z=>HP.out.setL hlt z);have HLN:=hid HP.out.lL;generalize hR':raiseTo q.K C q.base (i+1) L=R' at HST;have HR':=hid hR';clear hR';generalize raiseTo q.K C q.base i L=R at *;obtain⟨r1,r2⟩:=R;dsimp only at *;generalize hl:nth r2 i=l at *;generalize nth C i=c at *;have HRL:=hid hl;clear hl;have nL:=HP.out.neL.1;cases hg:gone (nth q.K i)
   ·rw[hg]at HST e1
    have HST2:=hid (show R'=(l+up l c,r2.set i (l+up l c)) by have:=HST.out;simpa using this);clear HST;have hup:=hid (up_facts l c);generalize up l c=u at *;clear hg;have HRN:=hid (fun(z:Int) (h:u=z)=>(show R'=(l+z,r2.set i (l+z)) by rw[HST2.out,h]));clear HST2;go_wp2
    all_goals go_region
    all_goals go_wp2
    all_goals first
     | (have hz:u=1:=by have h:=hup.out;simp only[beq_iff_eq,beq_eq_false_iff_ne,ne_eq]at *;omega
        obtain hz2:=HRN.out _ hz)
     | (have hz:u=0:=by have h:=hup.out;simp only[beq_iff_eq,beq_eq_false_iff_ne,ne_eq]at *;omega
        obtain hz2:=HRN.out _ hz)
     | (have hz:u=2:=by have h:=hup.out;simp only[beq_iff_eq,beq_eq_false_iff_ne,ne_eq]at *;omega
        obtain hz2:=HRN.out _ hz)
    all_goals (
     go_roundw
     case rel=>exact⟨i+1,by rw[HR'.out,hz2] <;> first | rfl | (congr 1;omega),by go_num,by omega,hid (by rw[HR'.out,hz2];first | exact(HSL.out _).drew | (rw[show l+0=l by omega];exact(HSL.out _).drew)),hid ((HF.out.set (List.mem_singleton.2 rfl) _).drew),hid (fun j hj=>by rw[HR'.out,hz2,nth_set _ _ _ _ (by rw[HLN.out];exact hlt),if_neg (by omega)];exact HK.out j (by omega))⟩
     case measure=>simp[intOf];omega)
   ·rw[hg]at HST e1
    have HST2:=hid (show R'=(r1,r2.set i r1) by have:=HST.out;simpa using this);clear HST hg nL;go_wp2;go_roundw
    case rel=>exact⟨i+1,by rw[HR'.out,HST2.out],by go_num,by omega,hid (by rw[HR'.out,HST2.out];exact HSL.out r1),hid (HF.out.set (List.mem_singleton.2 rfl) _),hid (fun j hj=>by rw[HR'.out,HST2.out,nth_set _ _ _ _ (by rw[HLN.out];exact hlt),if_neg (by omega)];exact HK.out j (by omega))⟩
    case measure=>simp[intOf];omega
  ·have hi2:i=q.n:=by omega
   have HP2:=hid (show PS wr q C (raiseTo q.K C q.base q.n L).2 G by rw[←hi2];exact HP.out);clear hi2;go_wp2;go_end0;exact⟨rfl,HP2.out,HF.out⟩
end Go.Proofs.YtnakejhohdbfdaaGreatDoor

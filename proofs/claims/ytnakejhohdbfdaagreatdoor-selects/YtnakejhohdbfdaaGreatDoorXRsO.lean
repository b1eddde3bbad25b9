import Derived.Test.YtnakejhohdbfdaaGreatDoorXRsG
namespace Go.Proofs.YtnakejhohdbfdaaGreatDoor
open Go.RowKit Lev
set_option maxRecDepth 10000 in
theorem ref13_nil (p:Nat)(b:Int)(w:World)(c2:w.cell? ⟨p,2,none⟩=some (.slice none 0 0))(c6:w.cell? ⟨p,6,none⟩=some (.int .i64 b)) :
 Calls Tryz.prog 44 #[.pointer (some ⟨p,0,none⟩)] w fun e w'=>e=.returned (.tuple #[])∧Fr [] w w':=by
 have hp:=World.block_lt_of_cell? _ _ c2;dsimp only at hp;go_enter Tryz.func44,Tryz.ntmps44;go_wp2;go_loopw [6] (fun ii wr=>ii=.int .i64 0∧wr=w.alloc (.cells #[.int .i64 b,.int .i64 (-1),.bool false] 149)) (fun _ _=>0)
 case atStart=>exact⟨rfl,rfl⟩
 case round =>
  obtain⟨rfl,rfl⟩:=hrel;go_wp2;go_end0;exact⟨rfl,(Fr.refl _ _).alloc _⟩
theorem ref33_nil (p:Nat)(w:World)(c2:w.cell? ⟨p,2,none⟩=some (.slice none 0 0)) :
 Calls Tryz.prog 85 #[.pointer (some ⟨p,0,none⟩)] w fun e w'=>e=.returned (.slice none 0 0)∧w'=w:=by
 go_enter Tryz.func85,Tryz.ntmps85;go_wp2;go_loopw [3,4] (fun v ii wr=>v=.slice none 0 0∧ii=.int .i64 0∧wr=w) (fun _ _ _=>0)
 case atStart=>exact⟨rfl,rfl,rfl⟩
 case round =>
  obtain⟨rfl,rfl,rfl⟩:=hrel;go_wp2;go_ret;exact⟨rfl,rfl⟩
theorem ref14_nil (p:Nat)(w:World)(c2:w.cell? ⟨p,2,none⟩=some (.slice none 0 0)) :
 Calls Tryz.prog 45 #[.pointer (some ⟨p,0,none⟩)] w fun e w'=>e=.returned (.slice none 0 0)∧w'=w:=by
 have HC:=hid (ref33_nil p w c2);go_enter Tryz.func45,Tryz.ntmps45;go_wp2_with (first | (go_at_call 85;refine HC.out.mono ?_;rintro e w' ⟨rfl,rfl⟩));go_loopw [4,5] (fun v ii wr=>v=.slice none 0 0∧ii=.int .i64 0∧wr=w') (fun _ _ _=>0)
 case atStart=>exact⟨rfl,rfl,rfl⟩
 case round =>
  obtain⟨rfl,rfl,rfl⟩:=hrel;go_wp2;go_ret;exact⟨rfl,rfl⟩
theorem ref19_nil (p:Nat)(b:Int)(w:World)(c2:w.cell? ⟨p,2,none⟩=some (.slice none 0 0))(c6:w.cell? ⟨p,6,none⟩=some (.int .i64 b)) :
 Calls Tryz.prog 50 #[.pointer (some ⟨p,0,none⟩)] w fun e w'=>e=.returned (.tuple #[])∧w'=w:=by
 go_enter Tryz.func50,Tryz.ntmps50;go_wp2;go_loopw [3] (fun ii wr=>ii=.int .i64 0∧wr=w) (fun _ _=>0)
 case atStart=>exact⟨rfl,rfl⟩
 case round =>
  obtain⟨rfl,rfl⟩:=hrel;go_wp2;go_end0;exact⟨rfl,rfl⟩
theorem ref12_nil (w:World):Calls Tryz.prog 43 #[.slice none 0 0,.int .i64 0,.int .i64 0] w fun e w'=>e=.returned (.bool false)∧w'=w:=by
 go_enter Tryz.func43,Tryz.ntmps43;go_wp2;go_loopw [7] (fun ii wr=>ii=.int .i64 0∧wr=w) (fun _ _=>0)
 case atStart=>exact⟨rfl,rfl⟩
 case round =>
  obtain⟨rfl,rfl⟩:=hrel;go_wp2;go_ret;exact⟨rfl,rfl⟩
set_option linter.unusedSimpArgs false in
set_option maxRecDepth 10000 in
set_option maxHeartbeats 4000000 in
theorem ref5_full_nil (s:ByteArray)(b:Int)(w:World)(hs:s.size=0)(hT:Lib.Utf8Tabs 1 2 w)(hb:b=0∨b=1∨b=2) :
 Calls Tryz.prog 11 #[.string s,.int .i64 b] w fun e w'=>∃p bL,e=.returned (.pointer (some ⟨p,0,none⟩))∧w'.cell? ⟨p,0,none⟩=some (.slice none 0 0)∧w'.cell? ⟨p,3,none⟩=some (.slice (some ⟨bL,0,none⟩) 0 0)∧w'.cell? ⟨p,6,none⟩=some (.int .i64 (baseOf [] b))∧Fr [] w w':=by
 have HD:=hid (Cls.ref7_any s w (by omega) hT);have HE:=hid (show Dec.Ends s 0 from⟨hs.symm,fun j hj=>absurd hj (Nat.not_lt_zero _)⟩);obtain⟨bs,hbs⟩:∃bs,bs=baseOf [] b:=⟨_,rfl⟩;rw[←hbs];have HBS:=hid hbs;clear hT hbs;go_enter Tryz.func11,Tryz.ntmps11;go_wp2_with fail;refine HD.out.mono ?_;rintro e W ⟨n',v,hn',rfl,own,hbel,hnil⟩;have hn0:=Dec.ends_unique HE.out hn';subst hn0;have hv:=hnil rfl;subst hv;have HW:=hid (Fr.of_below (S:=[]) hbel);clear own hbel hnil hn' HD;obtain⟨i3,hi3,hz30,hz31,hz32⟩:=info_parts info3;obtain⟨i4,hi4,hz40,hz41,hz42⟩:=info_parts info4;obtain⟨ZL,hZL⟩:∃ZL,ZL=madeCells #[.int .i64 0] 0:=⟨_,rfl⟩;obtain⟨ZG,hZG⟩:∃ZG,ZG=madeCells #[.bool false] 0:=⟨_,rfl⟩;have hmk1:∀X:World,(Instr.makeSlice 22 (.int .i64 0) (.int .i64 0)).run Tryz.prog X=.ok (.slice (some ⟨X.heap.size,0,none⟩) 0 0) (X.alloc (.cells ZL 3)):=fun X=>by
  have:=run_make (P:=Tryz.prog) X 22 3 i3 _ Tryz.underlying22 hi3 hz30 .i64 .i64 0 0 (by omega) (Int.le_refl _) (by rw[hz32];omega) (by omega);rw[hz31,Nat.mul_one]at this;rw[hZL];exact this
 have hmk2:∀X:World,(Instr.makeSlice 30 (.int .i64 0) (.int .i64 0)).run Tryz.prog X=.ok (.slice (some ⟨X.heap.size,0,none⟩) 0 0) (X.alloc (.cells ZG 4)):=fun X=>by
  have:=run_make (P:=Tryz.prog) X 30 4 i4 _ Tryz.underlying30 hi4 hz40 .i64 .i64 0 0 (by omega) (Int.le_refl _) (by rw[hz42];omega) (by omega);rw[hz41,Nat.mul_one]at this;rw[hZG];exact this
 clear hZL hZG;go_upto_region 3 with fail
 go_cut [7]from 21 to 28 (fun a wx=>∃p bL bG:Nat,a=.pointer (some ⟨p,0,none⟩)∧Hid (Fr [] W wx∧pobj wx p #[.slice none 0 0,.slice none 0 0,.slice none 0 0,.slice (some ⟨bL,0,none⟩) 0 0,.slice none 0 0,.slice (some ⟨bG,0,none⟩) 0 0,.int .i64 b]∧W.heap.size≤p))
 case first =>
  go_region
  all_goals go_wp2
  all_goals go_meet
  ·exact⟨W.heap.size+1+1,W.heap.size,W.heap.size+1,rfl,hid ⟨((((Fr.refl [] W).alloc _).alloc _).alloc _).drew,(three_blocks W _ _ _).2.2,by omega⟩⟩
  ·exact⟨W.heap.size+1+1,W.heap.size+1,W.heap.size,rfl,hid ⟨((((Fr.refl [] W).alloc _).alloc _).alloc _).drew,(three_blocks W _ _ _).2.2,by omega⟩⟩
 case rest =>
  obtain⟨p,bL,bG,rfl,HV⟩:=hcut;obtain⟨V1,hV1⟩:∃V1,V1=wc:=⟨_,rfl⟩;subst hV1;clear hmk1 hmk2;have HPO:=hid HV.out.2.1;have hpL:=HPO.out.lt;have d1:=HPO.out.cell (i:=1) rfl;have d2:=HPO.out.cell (i:=2) rfl;have d6:=HPO.out.cell (i:=6) rfl;have f2:=HPO.out.froz 2;have f6:=HPO.out.froz 6;have hap:∀X:World,(Builtin.append_ #[22,22] 22 #[.slice none 0 0,.slice none 0 0]).run Tryz.prog X=.ok (.slice none 0 0) X:=fun X=>run_append_owned_none (P:=Tryz.prog) X X.heap.size 22 22 3 i3 1 Tryz.underlying22 hi3 (.slice none 0 0) 0 [] (World.ownsRow_nil _ _ _ _)
  go_wp2;go_loopw [8] (fun ii wr=>ii=.int .i64 0∧wr=V1) (fun _ _=>0)
  case atStart=>exact⟨rfl,rfl⟩
  case round =>
   obtain⟨rfl,rfl⟩:=hrel;go_upto_region 9 with fail
   go_cut []from 50 to 61 (fun wx=>Hid (Fr [p] wr wx∧pobj wx p #[.slice none 0 0,.slice none 0 0,.slice none 0 0,.slice (some ⟨bL,0,none⟩) 0 0,.slice none 0 0,.slice (some ⟨bG,0,none⟩) 0 0,.int .i64 b]))
   case first =>
    go_region
    all_goals go_wp2
    all_goals go_meet
    all_goals exact hid ⟨((Fr.refl [p] wr).drew).set (List.mem_singleton.2 rfl) _,HPO.out.set 2 _⟩
   case rest =>
    obtain⟨V,hV⟩:∃V,V=wc:=⟨_,rfl⟩;subst hV;have HF:=hid hcut.out.1;have HP:=hid hcut.out.2;clear hcut d1 d2 d6 f2 f6;have hpl2:=HP.out.lt;have d1:=HP.out.cell (i:=1) rfl;have d6:=HP.out.cell (i:=6) rfl;have f6:=HP.out.froz 6;go_wp2;go_loopw [10] (fun ii wx=>ii=.int .i64 0∧wx=V) (fun _ _=>0)
    case atStart=>exact⟨rfl,rfl⟩
    case round =>
     obtain⟨rfl,rfl⟩:=hrel;have HC31:=hid ref12_nil;by_cases hb2:b=2
     ·subst hb2
      have HBT:=hid (show bs=0 from HBS.out);have HP6:=hid (HP.out.set 6 (.int .i64 0));have HF6:=hid ((Fr.refl [p] wr).set (b:=p) (i:=6) (List.mem_singleton.2 rfl) (.int .i64 0));have k2:=HP6.out.cell (i:=2) rfl;have k6:=HP6.out.cell (i:=6) rfl;have k1:=HP6.out.cell (i:=1) rfl;have HC32:=hid (ref13_nil p 0 _ k2 k6);have HPB:=HP6;have HFB:=HF6
      go_wp2_with (first
       | (go_at_call 43;refine(HC31.out _).mono ?_;rintro e' w' ⟨rfl,rfl⟩)
       | (go_at_call 44;refine HC32.out.mono ?_;rintro e' w2 ⟨rfl,hf2⟩;have HP2:=hid (HPB.out.fr hf2 List.not_mem_nil);have HF2:=hid (HFB.out.trans (hf2.mono (fun _ h _=>absurd h List.not_mem_nil)));have m2:=HP2.out.cell (i:=2) rfl;have m6:=HP2.out.cell (i:=6) rfl;have HC33:=hid (ref14_nil p w2 m2);have HC38:=hid (ref19_nil p bs w2 m2 (by rw[HBT.out];exact m6));clear hf2)
       | (go_at_call 45;refine HC33.out.mono ?_;rintro e' w' ⟨rfl,rfl⟩))
      go_loopw [15] (fun ii wx=>ii=.int .i64 0∧wx=w') (fun _ _=>0)
      case atStart=>exact⟨rfl,rfl⟩
      case round =>
       obtain⟨rfl,rfl⟩:=hrel;go_wp2_with (first | (go_at_call 50;refine HC38.out.mono ?_;rintro e' w' ⟨rfl,rfl⟩));go_ret;refine⟨p,bL,rfl,HP2.out.cell (i:=0) rfl,HP2.out.cell (i:=3) rfl,by rw[HBT.out];exact HP2.out.cell (i:=6) rfl,?_⟩;have h1:Fr [p] W _:=((HV.out.1.mono (fun _ h _=>absurd h List.not_mem_nil):Fr [p] W _).trans HF.out).trans HF2.out;exact HW.out.trans (h1.mono (fun k hk hlt=>by have h5:k=p:=List.mem_singleton.1 hk;have:=HV.out.2.2;omega))
     ·have hbb:(b == 2)=false:=by simp[hb2]
      have HBT:=hid (show bs=b by rw[HBS.out,baseOf,if_neg hb2]);have k2:=HP.out.cell (i:=2) rfl;have HC32:=hid (ref13_nil p b wr k2 d6);have HPB:=HP;have HFB:=hid (Fr.refl [p] wr)
      go_wp2_with (first
       | (go_at_call 43;refine(HC31.out _).mono ?_;rintro e' w' ⟨rfl,rfl⟩)
       | (go_at_call 44;refine HC32.out.mono ?_;rintro e' w2 ⟨rfl,hf2⟩;have HP2:=hid (HPB.out.fr hf2 List.not_mem_nil);have HF2:=hid (HFB.out.trans (hf2.mono (fun _ h _=>absurd h List.not_mem_nil)));have m2:=HP2.out.cell (i:=2) rfl;have m6:=HP2.out.cell (i:=6) rfl;have HC33:=hid (ref14_nil p w2 m2);have HC38:=hid (ref19_nil p bs w2 m2 (by rw[HBT.out];exact m6));clear hf2)
       | (go_at_call 45;refine HC33.out.mono ?_;rintro e' w' ⟨rfl,rfl⟩))
      go_loopw [15] (fun ii wx=>ii=.int .i64 0∧wx=w') (fun _ _=>0)
      case atStart=>exact⟨rfl,rfl⟩
      case round =>
       obtain⟨rfl,rfl⟩:=hrel;go_wp2_with (first | (go_at_call 50;refine HC38.out.mono ?_;rintro e' w' ⟨rfl,rfl⟩));go_ret;refine⟨p,bL,rfl,HP2.out.cell (i:=0) rfl,HP2.out.cell (i:=3) rfl,by rw[HBT.out];exact HP2.out.cell (i:=6) rfl,?_⟩;have h1:Fr [p] W _:=((HV.out.1.mono (fun _ h _=>absurd h List.not_mem_nil):Fr [p] W _).trans HF.out).trans HF2.out;exact HW.out.trans (h1.mono (fun k hk hlt=>by have h5:k=p:=List.mem_singleton.1 hk;have:=HV.out.2.2;omega))
end Go.Proofs.YtnakejhohdbfdaaGreatDoor

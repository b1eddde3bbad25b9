import Derived.Test.YtnakejhohdbfdabGreatDoorKQcB
namespace Go.Proofs.YtnakejhohdbfdabGreatDoor
open Go.RowKit Lev Lay Bnd
theorem near_is {x:Int}{K:Nat}:(near x ((K:Int) - 1) == x)=decide (0≤x∧x<(K:Int)):=by
 unfold near;by_cases h:0≤x∧x<(K:Int)
 ·rw[decide_eq_true h,if_neg (by omega),if_neg (by omega)];simp
 ·rw[decide_eq_false h]
  split
  ·simp;omega
  ·split
   ·simp;omega
   ·omega
theorem hasL_any (a:Option Addr)(K c:Nat)(x:Int)(w:World)(h0:0<K)(hK:K≤100000):Calls Tryz.prog 308 #[.slice a K c,.int .i64 x] w fun e w'=>e=.returned (.bool (decide (0≤x∧x<(K:Int))))∧w'=w:=by
 rw[←near_is];have H106:=hid (fun Y:World=>nearL_any a K c x Y h0 hK);go_enter Tryz.func308,Tryz.ntmps308;go_wp2_with (first | (go_at_call 147;refine(H106.out _).mono ?_;rintro e w' ⟨rfl,rfl⟩));go_ret;exact⟨rfl,rfl⟩
theorem lastG_any (gL K cL i lo cO:Nat)(aO:Option Addr)(w:World)(hi:i<K)(hc:w.cell? ⟨gL,i * 4+2,none⟩=some (.slice aO lo cO)):Calls Tryz.prog 309 #[.slice (some ⟨gL,0,none⟩) K cL,.int .i64 (i:Nat)] w fun e w'=>e=.returned (.int .i64 (lo:Nat))∧Fr [] w w':=by
 have hiI:(i:Int)<(K:Int):=by omega
 have hgl:=World.block_lt_of_cell? _ _ hc;dsimp only at hgl;go_enter Tryz.func309,Tryz.ntmps309;go_wp2;go_ret;exact⟨rfl,by(repeat(first | refine Fr.set_new ?_ (by omega) | refine Fr.drewN ?_ _ | refine Fr.drew ?_ | with_reducible exact Fr.refl _ _ | refine Fr.alloc ?_ _))⟩
set_option maxRecDepth 10000 in
theorem bd_any (Bd:List Int)(gB cB nB:Nat)(v1 v2:Value)(x:Int)(k:Nat)(w:World)(hn:0<nB)(hl:nB≤1000)(hB:rowAt w gB nB Bd)(hk:near x ((nB:Int) - 1)=(k:Nat))(hkn:k<nB) :
 Calls Tryz.prog 250 #[.agg #[.slice (some ⟨gB,0,none⟩) nB cB,v1,v2],.int .i64 x] w fun e w'=>e=.returned (.int .i64 (nth Bd k))∧Fr [] w w':=by
 have H107:=hid (fun Y:World=>nearP_any x ((nB:Int) - 1) Y (by omega));rw[hk]at H107;have c1:=hB k hkn;have hgl:=World.block_lt_of_cell? _ _ c1;dsimp only at hgl;have hkI:(k:Int)<(nB:Int):=by omega
 have hw1:IntKind.i64.wrap ((nB:Int) - 1)=(nB:Int) - 1:=by rw[IntKind.wrap_i64];omega
 generalize nth Bd k=y at *;clear hB hk;obtain⟨w2,hw2⟩:∃w2,w2=w.alloc (.cells #[.slice (some ⟨gB,0,none⟩) nB cB,v1,v2] 207):=⟨_,rfl⟩;have HF2:=hid (show Fr [] w w2 by rw[hw2];(repeat(first | refine Fr.set_new ?_ (by omega) | refine Fr.drewN ?_ _ | refine Fr.drew ?_ | with_reducible exact Fr.refl _ _ | refine Fr.alloc ?_ _)));have HO2:=hid (show w2.heap[w.heap.size]?=some (.cells #[.slice (some ⟨gB,0,none⟩) nB cB,v1,v2] 207 (0,0)) by rw[hw2];exact obj_new w _);have HC1:=hid (HF2.out.cell c1 List.not_mem_nil);go_enter Tryz.func250,Tryz.ntmps250;go_wp2_with fail;rw[←hw2];clear hw2 c1;have b0:=obj_cell HO2.out (i:=0) (v:=.slice (some ⟨gB,0,none⟩) nB cB) rfl;have c1:=HC1.out;go_quiet (first | (go_at_call 148;exact Calls.quiet_of_same (H107.out _)));go_wp2;go_ret;exact⟨rfl,HF2.out.trans (fr_drewN _ _)⟩
end Go.Proofs.YtnakejhohdbfdabGreatDoor

import Derived.Test.YtnakejhohdbfdaaGreatDoorXQaD
import Derived.Test.YtnakejhohdbfdaaGreatDoorXLdG
namespace Go.Proofs.YtnakejhohdbfdaaGreatDoor
open Go.RowKit Lev Lay Bnd
def placeL (Bd:List Int)(z off:Int)(back:Bool):Int × Bool :=
 let o:=best Bd (min (max off 0) z) Bd.length
 (o,if o=0 then false else if o=z then true else back)
theorem obj_two {w W:World}(o1:Obj){x0 x1 y0 y1:Value}{t:Nat}(h:Fr [w.heap.size] ((w.alloc o1).alloc (.cells #[x0,x1] t)) W):((W.setCell ⟨w.heap.size+1,0,none⟩ y0).setCell ⟨w.heap.size+1,1,none⟩ y1).heap[w.heap.size+1]?=some (.cells #[y0,y1] t (0,0)):=by
 have hs:(w.alloc o1).heap.size=w.heap.size+1:=by simp
 have h0:=obj_new (w.alloc o1) (.cells #[x0,x1] t);rw[hs]at h0;exact obj_set (obj_set (obj_fr h0 h (by simp)) 0 y0) 1 y1
set_option maxRecDepth 10000 in
theorem end_any (Bd:List Int)(z:Int)(hr:Rises Bd z)(gB cB nB:Nat)(v1 v2:Value)(w:World)(hn:nB=Bd.length)(hl:nB≤1000)(hB:rowAt w gB nB Bd) :
 Calls Tryz.prog 101 #[.agg #[.slice (some ⟨gB,0,none⟩) nB cB,v1,v2]] w fun e w'=>e=.returned (.int .i64 z)∧w'=w.alloc (.cells #[.slice (some ⟨gB,0,none⟩) nB cB,v1,v2] 163):=by
 have hl0:=hr.len;obtain⟨m,hm⟩:∃m,m=nB - 1:=⟨_,rfl⟩;have hz:nth Bd m=z:=by rw[hm,hn,nth,hr.last];rfl
 have c1:=hB m (by omega);rw[hz]at c1;have hw1:IntKind.i64.wrap ((nB:Int) - 1)=(m:Int):=by rw[IntKind.wrap_i64];omega
 have hmI:(m:Int)<(nB:Int):=by omega
 have hgl:=World.block_lt_of_cell? _ _ c1;dsimp only at hgl;clear hB hr hz hm hn;go_enter Tryz.func101,Tryz.ntmps101;go_wp2;go_ret;exact⟨rfl,rfl⟩
theorem ret57 {w W:World}{o1:Obj}{x0 x1 y0 y1:Value}{Q:Ending→World→Prop}{tm:Array Value}(htm:tm.getD 4 undef=.pointer (some ⟨w.heap.size+1,0,none⟩))(h:Fr [w.heap.size] ((w.alloc o1).alloc (.cells #[x0,x1] 55)) W)(hq:Q (.returned (.agg #[y0,y1])) ((W.setCell ⟨w.heap.size+1,0,none⟩ y0).setCell ⟨w.heap.size+1,1,none⟩ y1)):bodyPost Tryz.prog Tryz.f57 Q .ret { tmps:=tm,defers:=[] } ((W.setCell ⟨w.heap.size+1,0,none⟩ y0).setCell ⟨w.heap.size+1,1,none⟩ y1):=by
 have HEND:=obj_two (y0:=y0) (y1:=y1) o1 h;exact bodyPost_ret (results_cell_row (t:=55) (fr:=(0,0)) rfl _ _ (w.heap.size+1) _ _ htm HEND Tryz.underlying55 rfl (by kernel_rfl)) rfl hq
theorem ret57b {w W:World}{o1 o3:Obj}{x0 x1 y0 y1:Value}{Q:Ending→World→Prop}{tm:Array Value}(htm:tm.getD 4 undef=.pointer (some ⟨w.heap.size+1,0,none⟩))(h:Fr [w.heap.size] ((w.alloc o1).alloc (.cells #[x0,x1] 55)) W)(hq:Q (.returned (.agg #[y0,y1])) (((W.setCell ⟨w.heap.size+1,0,none⟩ y0).setCell ⟨w.heap.size+1,1,none⟩ y1).alloc o3)):bodyPost Tryz.prog Tryz.f57 Q .ret { tmps:=tm,defers:=[] } (((W.setCell ⟨w.heap.size+1,0,none⟩ y0).setCell ⟨w.heap.size+1,1,none⟩ y1).alloc o3):=by
 have HEND:=obj_fr (obj_two (y0:=y0) (y1:=y1) o1 h) ((Fr.refl [] _).alloc o3) List.not_mem_nil;exact bodyPost_ret (results_cell_row (t:=55) (fr:=(0,0)) rfl _ _ (w.heap.size+1) _ _ htm HEND Tryz.underlying55 rfl (by kernel_rfl)) rfl hq
set_option maxRecDepth 10000 in
set_option maxHeartbeats 4000000 in
theorem placeP_any (B P:Nat)(Bd V X:List Int)(r z:Int)(Ls:List Ln)(v0 v1 v2 vL:Value)(hs:List Value)(off:Int)(back:Bool)(w:World)(h:LP w B P Bd V X r Ls v0 v1 v2 vL hs)(hr:Rises Bd z)(hz:0≤z)(hl:Bd.length≤1000) :
 Calls Tryz.prog 57 #[.pointer (some ⟨P,0,none⟩),.agg #[.int .i64 off,.bool back]] w fun e w'=>e=.returned (.agg #[.int .i64 (placeL Bd z off back).1,.bool (placeL Bd z off back).2])∧Fr [] w w':=by
 obtain⟨k,hk⟩:=cut_exists (min (max off 0) z) Bd hr.sorted;have hl0:=hr.len;obtain⟨gB,cB,hvB,_,HRB⟩:=h.b.row hl0;subst hvB;have H100:=hid (fun(Y:World) (hf:Fr [] w Y)=>Cls.fn35_any Bd z hr off false k gB cB Y hz hk (by omega) (fun j hj=>HRB.fr hf List.not_mem_nil j hj));rw[←snap_down hr hk (by omega)]at H100;have H101:=hid (fun(Y:World) (hf:Fr [] w Y)=>end_any Bd z hr gB cB Bd.length v1 v2 Y rfl hl (HRB.fr hf List.not_mem_nil));have p0:=obj_cell h.o (i:=0) (v:=.slice (some ⟨gB,0,none⟩) Bd.length cB) rfl;have p1:=obj_cell h.o (i:=1) (v:=v1) rfl;have p2:=obj_cell h.o (i:=2) (v:=v2) rfl;have hPl:P<w.heap.size:=World.block_lt_of_cell? _ _ p0;have HPL:=hid (show placeL Bd z off back=(best Bd (min (max off 0) z) Bd.length,if best Bd (min (max off 0) z) Bd.length=0 then false else if best Bd (min (max off 0) z) Bd.length=z then true else back)from rfl);rw[HPL.out];dsimp only;generalize best Bd (min (max off 0) z) Bd.length=o at *;clear h hr hk HRB HPL hl hl0;obtain⟨bk,hbk⟩:∃bk,bk=(if o=0 then false else if o=z then true else back):=⟨_,rfl⟩;rw[←hbk];have HBK:=hid hbk;clear hbk;go_enter Tryz.func57,Tryz.ntmps57;go_wp2_with fail
 go_region_with (first
  | (go_at_call 100;refine(H100.out _ ?fa).mono ?_;(case fa=>(repeat(first | refine Fr.set_new ?_ (by omega) | refine Fr.drewN ?_ _ | refine Fr.drew ?_ | with_reducible exact Fr.refl _ _ | refine Fr.alloc ?_ _)));rintro e w1 ⟨rfl,q,rfl⟩))
 all_goals (
  by_cases ho0:o=0
  ·subst ho0
   have hb:=HBK.out
   rw[if_pos rfl]at hb
   subst hb
   go_wp2
   refine ret57 (o1:=.cells #[.int .i64 off,.bool back] 55) (x0:=.int .i64 0) (x1:=.bool false) rfl ?_ ⟨rfl,?_⟩
   ·(repeat(first | refine Fr.set ?_ (List.mem_singleton.2 rfl) _ | refine Fr.drewN ?_ _ | refine Fr.drew ?_ | with_reducible exact Fr.refl _ _ | refine Fr.alloc ?_ _))
   ·(repeat(first | refine Fr.set_new ?_ (by omega) | refine Fr.drewN ?_ _ | refine Fr.drew ?_ | with_reducible exact Fr.refl _ _ | refine Fr.alloc ?_ _))
  ·have ho0':(o == 0)=false:=by simpa using ho0
   by_cases ho1:o=z
   ·have hb:=HBK.out
    rw[if_neg ho0,if_pos ho1]at hb
    subst ho1
    subst hb
    go_wp2_with (first
     | (go_at_call 101;refine(H101.out _ ?fa).mono ?_;(case fa=>(repeat(first | refine Fr.set_new ?_ (by omega) | refine Fr.drewN ?_ _ | refine Fr.drew ?_ | with_reducible exact Fr.refl _ _ | refine Fr.alloc ?_ _)));rintro e w1 ⟨rfl,rfl⟩))
    refine ret57b (o1:=.cells #[.int .i64 off,.bool back] 55) (x0:=.int .i64 0) (x1:=.bool false) rfl ?_ ⟨rfl,?_⟩
    ·(repeat(first | refine Fr.set ?_ (List.mem_singleton.2 rfl) _ | refine Fr.drewN ?_ _ | refine Fr.drew ?_ | with_reducible exact Fr.refl _ _ | refine Fr.alloc ?_ _))
    ·(repeat(first | refine Fr.set_new ?_ (by omega) | refine Fr.drewN ?_ _ | refine Fr.drew ?_ | with_reducible exact Fr.refl _ _ | refine Fr.alloc ?_ _))
   ·have hb:=HBK.out
    rw[if_neg ho0,if_neg ho1]at hb
    subst back
    have ho1':(o == z)=false:=by simpa using ho1
    go_wp2_with (first
     | (go_at_call 101;refine(H101.out _ ?fa).mono ?_;(case fa=>(repeat(first | refine Fr.set_new ?_ (by omega) | refine Fr.drewN ?_ _ | refine Fr.drew ?_ | with_reducible exact Fr.refl _ _ | refine Fr.alloc ?_ _)));rintro e w1 ⟨rfl,rfl⟩))
    refine ret57b (o1:=.cells #[.int .i64 off,.bool bk] 55) (x0:=.int .i64 0) (x1:=.bool false) rfl ?_ ⟨rfl,?_⟩
    ·(repeat(first | refine Fr.set ?_ (List.mem_singleton.2 rfl) _ | refine Fr.drewN ?_ _ | refine Fr.drew ?_ | with_reducible exact Fr.refl _ _ | refine Fr.alloc ?_ _))
    ·(repeat(first | refine Fr.set_new ?_ (by omega) | refine Fr.drewN ?_ _ | refine Fr.drew ?_ | with_reducible exact Fr.refl _ _ | refine Fr.alloc ?_ _)))
end Go.Proofs.YtnakejhohdbfdaaGreatDoor

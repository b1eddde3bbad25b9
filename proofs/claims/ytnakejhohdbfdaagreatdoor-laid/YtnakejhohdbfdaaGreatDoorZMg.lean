import Derived.Test.YtnakejhohdbfdaaGreatDoorZMf
import Derived.WalkKit
import Derived.LaidEql
import Derived.Stop.Asserts
import Derived.RowKitTokens
import Derived.Test.YtnakejhohdbfdaaGreatDoorZPlC
import Derived.Test.YtnakejhohdbfdaaGreatDoorZLdB
namespace Go.Proofs.YtnakejhohdbfdaaGreatDoor
open Go.RowKit Lev
set_option maxRecDepth 10000 in
set_option maxHeartbeats 2000000 in
theorem check_ok (s:ByteArray) (b:Int) (w:World) (hs:s.size ≤ 400) (hb:b=0∨b=1∨b=2) :
 Calls Tryz.prog 36 #[.string s,.int .i64 b] w fun e w'=>e=.returned .nilIface∧w'=w:=by
 have hsI:(s.size:Int) ≤ 400:=by omega
 have hd1:decide ((400:Int) < (s.size:Int))=false:=decide_eq_false (by omega)
 have hd2:decide (400 < s.size)=false:=decide_eq_false (by omega)
 rcases hb with rfl | rfl | rfl
 all_goals
  go_enter Tryz.func36,Tryz.ntmps36
  go_wp2
  go_ret
  exact ⟨rfl,rfl⟩
def faulty (w:World) (x:Int):World:=w.alloc (.cells #[.int .i64 x,.nilIface] 128)
set_option maxRecDepth 10000 in
set_option maxHeartbeats 2000000 in
theorem check_long (s:ByteArray) (b:Int) (w:World) (hs:400 < s.size) :
 Calls Tryz.prog 36 #[.string s,.int .i64 b] w fun e w'=>e=.returned (.iface 126 (.pointer (some ⟨w.heap.size,0,none⟩)))∧w'=faulty w 1:=by
 have hd1:decide ((400:Int) < (s.size:Int))=true:=decide_eq_true (by omega)
 have hd2:decide (400 < s.size)=true:=decide_eq_true (by omega)
 go_enter Tryz.func36,Tryz.ntmps36
 go_wp2
 go_ret
 exact ⟨rfl,rfl⟩
set_option maxRecDepth 10000 in
set_option maxHeartbeats 2000000 in
theorem check_base (s:ByteArray) (b:Int) (w:World) (hs:s.size ≤ 400) (h0:¬ b=0) (h1:¬ b=1) (h2:¬ b=2) :
 Calls Tryz.prog 36 #[.string s,.int .i64 b] w fun e w'=>e=.returned (.iface 126 (.pointer (some ⟨w.heap.size,0,none⟩)))∧w'=faulty w 2:=by
 have hsI:(s.size:Int) ≤ 400:=by omega
 have hd1:decide ((400:Int) < (s.size:Int))=false:=decide_eq_false (by omega)
 have hd2:decide (400 < s.size)=false:=decide_eq_false (by omega)
 have k0:(b != 0)=true:=by simp [h0]
 have k1:(b != 1)=true:=by simp [h1]
 have k2:(b != 2)=true:=by simp [h2]
 go_enter Tryz.func36,Tryz.ntmps36
 go_wp2
 go_ret
 exact ⟨rfl,rfl⟩
end Go.Proofs.YtnakejhohdbfdaaGreatDoor
namespace Go.Proofs.YtnakejhohdbfdaaGreatDoor.As
open Go.RowKit Go.Extern.Stop Go.Stop Go.Extern
abbrev ty (t:Nat):Value:=.pointer (some ⟨10,t,none⟩)
abbrev rty (t:Nat):Value:=.iface 257 (.agg #[ty t])
abbrev va (t:Nat) (a:Addr):Value:=.agg #[ty t,.pointer (some a),.int .u64 150]
abbrev vv (t:Nat) (a:Addr):Value:=.agg #[ty t,.pointer (some a),.int .u64 406]
theorem value100 (t:Addr) (w:World):(ReflectliteValue.unpack (.iface 130 (.pointer (some t)))).run Tryz.prog w=.ok (va 130 ⟨w.heap.size,0,none⟩) (w.alloc (.cells #[.pointer (some t)] 130)):=by kernel_rfl
theorem value96 (t:Addr) (w:World):(ReflectliteValue.unpack (.iface 126 (.pointer (some t)))).run Tryz.prog w=.ok (va 126 ⟨w.heap.size,0,none⟩) (w.alloc (.cells #[.pointer (some t)] 126)):=by kernel_rfl
theorem methKind (h : Value) (w : World) : (Go.method 476 257 (.agg #[h]) "Kind").run Tryz.prog w = .ok (272, h) w := by kernel_rfl
theorem methElem (h : Value) (w : World) : (Go.method 476 257 (.agg #[h]) "Elem").run Tryz.prog w = .ok (287, .agg #[h]) w := by kernel_rfl
theorem methImpl (h : Value) (w : World) : (Go.method 476 257 (.agg #[h]) "Implements").run Tryz.prog w = .ok (288, .agg #[h]) w := by kernel_rfl
theorem methAssg (h : Value) (w : World) : (Go.method 476 257 (.agg #[h]) "AssignableTo").run Tryz.prog w = .ok (285, .agg #[h]) w := by kernel_rfl
theorem type100 (a : Addr) (w : World) : (ReflectliteValue.methodAny (ReflectliteValue.valueError "reflectlite.Value.Type" 0) (fun t _ _ _ => ReflectliteType.toType t) #[va 130 a]).run Tryz.prog w = .ok (rty 130) w := by kernel_rfl
theorem kind100 (w:World):((ReflectliteType.abiMethod fun t=>(fun a:Nat=>Value.int IntKind.u8 (a:Int)) <$> Rtype.kind t) #[ty 130]).run Tryz.prog w=.ok (.int .u8 22) w:=by kernel_rfl
theorem kind96 (w:World):((ReflectliteType.abiMethod fun t=>(fun a:Nat=>Value.int IntKind.u8 (a:Int)) <$> Rtype.kind t) #[ty 126]).run Tryz.prog w=.ok (.int .u8 22) w:=by kernel_rfl
theorem elem100 (w:World):(ReflectliteType.method ReflectliteType.elem #[.agg #[ty 130]]).run Tryz.prog w=.ok (rty 126) w:=by kernel_rfl
theorem impl96 (w : World) : (ReflectliteType.relation "Implements" ReflectliteType.implements_ #[.agg #[ty 126], rty 86]).run Tryz.prog w = .ok (.bool true) w := by kernel_rfl
theorem typeOf96 (v:Value) (w:World):(ReflectliteType.typeOf #[.iface 126 v]).run Tryz.prog w=.ok (rty 126) w:=by kernel_rfl
theorem assg96 (w : World) : (ReflectliteType.relation "AssignableTo" ReflectliteType.assignableTo #[.agg #[ty 126], rty 126]).run Tryz.prog w = .ok (.bool true) w := by kernel_rfl
theorem elemOf100 (w:World):(Rtype.elem? 130).run Tryz.prog w=.ok (some 126) w:=by kernel_rfl
theorem mk96 (p:Addr) (w:World):(ReflectliteValue.mk 126 p ReflectliteValue.flagAddr).run Tryz.prog w=.ok (vv 126 p) w:=by kernel_rfl
theorem parts100 (a:Addr) (w:World):(ReflectliteValue.parts (va 130 a)).run Tryz.prog w=.ok (some (130,a,150)) w:=by kernel_rfl
theorem parts96 (a:Addr) (w:World):(ReflectliteValue.parts (va 126 a)).run Tryz.prog w=.ok (some (126,a,150)) w:=by kernel_rfl
theorem parts96v (a:Addr) (w:World):(ReflectliteValue.parts (vv 126 a)).run Tryz.prog w=.ok (some (126,a,406)) w:=by kernel_rfl
theorem direct96 (w:World):(Rtype.directlyAssignable 126 126).run Tryz.prog w=.ok true w:=by kernel_rfl
theorem method_at (z:Sem Value) (f:TypeId→Addr→Nat→Nat→Sem Value) (v:Value) (t:TypeId) (a:Addr) (fl:Nat) (p:Program) (w:World) (h:(ReflectliteValue.parts v).run p w=.ok (some (t,a,fl)) w) :
 (ReflectliteValue.method z f #[v]).run p w=(f t a fl (fl % 32)).run p w:=by
 change (Bind.bind (ReflectliteValue.parts v) _).run p w=_
 rw [Sem.run_bind,h]
 rfl
theorem isNil100 (a p:Addr) (W:World) (ha:W.cell? a=some (.pointer (some p))) :
 (ReflectliteValue.method (ReflectliteValue.valueError "reflectlite.Value.IsNil" 0) ReflectliteValue.isNil #[va 130 a]).run Tryz.prog W = .ok (.bool false) W := by
 rw [method_at _ _ _ _ _ _ _ _ (parts100 a W)]
 simp [ReflectliteValue.isNil,loadVar,isAgg,underlying,Tryz.underlying130,ha,Result.andThen]
theorem elemV100 (a p:Addr) (W:World) (ha:W.cell? a=some (.pointer (some p))) :
 (ReflectliteValue.method (ReflectliteValue.valueError "reflectlite.Value.Elem" 0) ReflectliteValue.elem #[va 130 a]).run Tryz.prog W = .ok (vv 126 p) W := by
 rw [method_at _ _ _ _ _ _ _ _ (parts100 a W)]
 simp [ReflectliteValue.elem,loadVar,isAgg,underlying,Tryz.underlying130,ha,Result.andThen,elemOf100,mk96]
set_option maxRecDepth 10000 in
theorem set96 (ta b e:Addr) (old:Value) (W:World) (hb:W.cell? b=some (.pointer (some e))) (ht:W.cell? ta=some old) (hf:W.frozen? ta=false) :
 (ReflectliteValue.set #[vv 126 ta,va 126 b]).run Tryz.prog W=.ok (.tuple #[]) (W.setCell ta (.pointer (some e))):=by
 change (Bind.bind (ReflectliteValue.parts (vv 126 ta)) _).run Tryz.prog W=_
 rw [Sem.run_bind,parts96v]
 change (Bind.bind (ReflectliteValue.parts (va 126 b)) _).run Tryz.prog W=_
 rw [Sem.run_bind,parts96]
 simp [ReflectliteValue.flagAddr,loadVar,isAgg,underlying,Tryz.underlying126,hb,Result.andThen,direct96,storeVar,Value.cells,storeCells,Addr.add]
 rw [run_store Tryz.prog W ta _ _ (by rfl)]
 simp [ht,hf]
def w1 (w:World) (t:Addr):World:=w.alloc (.cells #[.pointer (some t)] 130)
def w2 (w:World) (t:Addr):World:=(w1 w t).alloc (.cells #[ty 130,.pointer (some ⟨w.heap.size,0,none⟩),.int .u64 150] 190)
def w3 (w:World) (t:Addr):World:=(w2 w t).alloc (.cells #[ty 130,.pointer (some ⟨w.heap.size,0,none⟩),.int .u64 150] 190)
def w4 (w:World) (e t:Addr):World:=((w3 w t).alloc (.cells #[.pointer (some e)] 126)).setCell t (.pointer (some e))
set_option maxRecDepth 10000 in
set_option maxHeartbeats 4000000 in
theorem as_hit (e t:Addr) (old:Value) (w:World) (hg:w.cell? ⟨0,0,none⟩=some (rty 86)) (ht0:w.cell? t=some old) (hf0:w.frozen? t=false) :
 Calls Tryz.prog 71 #[.iface 126 (.pointer (some e)),.iface 130 (.pointer (some t))] w fun ev w'=>ev=.returned (.bool true)∧w'=w4 w e t:=by
 have h93:=@run_callFunc_extern Tryz.prog 120 _ (fun args=>ReflectliteValue.unpack (args.getD 0 (.tuple #[]))) Tryz.func120 (by kernel_rfl) (by kernel_rfl) (by kernel_rfl) (by kernel_rfl)
 have h94 := @run_callFunc_extern Tryz.prog 121 _ (ReflectliteValue.methodAny (ReflectliteValue.valueError "reflectlite.Value.Type" 0) (fun t _ _ _ => ReflectliteType.toType t)) Tryz.func121 (by kernel_rfl) (by kernel_rfl) (by kernel_rfl) (by kernel_rfl)
 have h95 := @run_callFunc_extern Tryz.prog 122 _ (ReflectliteValue.method (ReflectliteValue.valueError "reflectlite.Value.IsNil" 0) ReflectliteValue.isNil) Tryz.func122 (by kernel_rfl) (by kernel_rfl) (by kernel_rfl) (by kernel_rfl)
 have h238:=@run_callFunc_extern Tryz.prog 272 _ (ReflectliteType.abiMethod fun t=>do pure (.int .u8 (← Rtype.kind t))) Tryz.func272 (by kernel_rfl) (by kernel_rfl) (by kernel_rfl) (by kernel_rfl)
 have h250:=@run_callFunc_extern Tryz.prog 287 _ (ReflectliteType.method ReflectliteType.elem) Tryz.func287 (by kernel_rfl) (by kernel_rfl) (by kernel_rfl) (by kernel_rfl)
 have h251 := @run_callFunc_extern Tryz.prog 288 _ (ReflectliteType.relation "Implements" ReflectliteType.implements_) Tryz.func288 (by kernel_rfl) (by kernel_rfl) (by kernel_rfl) (by kernel_rfl)
 have h149:=@run_callFunc_extern Tryz.prog 176 _ ReflectliteType.typeOf Tryz.func176 (by kernel_rfl) (by kernel_rfl) (by kernel_rfl) (by kernel_rfl)
 have h248 := @run_callFunc_extern Tryz.prog 285 _ (ReflectliteType.relation "AssignableTo" ReflectliteType.assignableTo) Tryz.func285 (by kernel_rfl) (by kernel_rfl) (by kernel_rfl) (by kernel_rfl)
 have h150 := @run_callFunc_extern Tryz.prog 177 _ (ReflectliteValue.method (ReflectliteValue.valueError "reflectlite.Value.Elem" 0) ReflectliteValue.elem) Tryz.func177 (by kernel_rfl) (by kernel_rfl) (by kernel_rfl) (by kernel_rfl)
 have h151:=@run_callFunc_extern Tryz.prog 178 _ ReflectliteValue.set Tryz.func178 (by kernel_rfl) (by kernel_rfl) (by kernel_rfl) (by kernel_rfl)
 have f1:=typeOf96
 have f2:=methAssg
 have f3:=assg96
 have f4:=value96
 have f5:=value100
 have f6:=type100
 have f7:=methKind
 have f8:=methElem
 have f9:=methImpl
 have f10:=kind100
 have f11:=kind96
 have f12:=elem100
 have f13:=impl96
 have hlt:0 < w.heap.size:=by
  rcases Nat.eq_zero_or_pos w.heap.size with h0 | h
  ·simp [World.cell?,h0] at hg
  ·exact h
 have htl:t.block < w.heap.size:=by
  rcases Nat.lt_or_ge t.block w.heap.size with h | h
  ·exact h
  ·simp [World.cell?,Array.getElem?_eq_none h] at ht0
 have n8:=isNil100 ⟨w.heap.size,0,none⟩ t (w2 w t) (by simp [w2,w1])
 have hg2:(w2 w t).cell? ⟨0,0,none⟩=some (rty 86):=by
  rw [w2,World.cell?_alloc_lt _ _ ⟨0,0,none⟩ (by simp [w1]),w1,World.cell?_alloc_lt _ _ ⟨0,0,none⟩ hlt];exact hg
 have el:=elemV100 ⟨w.heap.size,0,none⟩ t (w3 w t) (by rw [w3,World.cell?_alloc_lt _ _ _ (by simp [w2,w1];omega)];simp [w2,w1])
 have st:=set96 t ⟨w.heap.size + 1 + 1 + 1,0,none⟩ e old ((w3 w t).alloc (.cells #[.pointer (some e)] 126))
  (by rw [World.cell?_alloc_at _ _ _ _ (by simp [w3,w2,w1])];rfl)
  (by rw [World.cell?_alloc_lt _ _ t (by simp [w3,w2,w1];omega),w3,World.cell?_alloc_lt _ _ t (by simp [w2,w1];omega),w2,World.cell?_alloc_lt _ _ t (by simp [w1];omega),w1,World.cell?_alloc_lt _ _ t htl];exact ht0)
  (by rw [World.frozen?_alloc_old _ _ t (by simp [w3,w2,w1];omega),w3,World.frozen?_alloc_old _ _ t (by simp [w2,w1];omega),w2,World.frozen?_alloc_old _ _ t (by simp [w1];omega),w1,World.frozen?_alloc_old _ _ t (Nat.ne_of_lt htl)];exact hf0)
 unfold w4
 dsimp only [w3,w2,w1,ty,rty,va,vv] at *
 go_enter Tryz.func71,Tryz.ntmps71
 go_wp2
 refine wp_loop_rounds 1 ?_
 rw [rounds_succ]
 go_wp2
 go_ret
 exact ⟨rfl,rfl⟩
end Go.Proofs.YtnakejhohdbfdaaGreatDoor.As
namespace Go.Proofs.YtnakejhohdbfdaaGreatDoor
open Go.RowKit Lev
theorem As.w4_fr (w:World) (e:Addr) (b:Nat):Fr [b] w (As.w4 w e ⟨b,0,none⟩):=by
 unfold As.w4 As.w3 As.w2 As.w1
 exact (((((Fr.refl [b] w).alloc _).alloc _).alloc _).alloc _).set (by simp) _
theorem As.w4_cell (w:World) (e:Addr) (b:Nat) (old:Value) (h:w.cell? ⟨b,0,none⟩=some old):(As.w4 w e ⟨b,0,none⟩).cell? ⟨b,0,none⟩=some (.pointer (some e)):=by
 unfold As.w4
 have hf:Fr [] w ((As.w3 w ⟨b,0,none⟩).alloc (.cells #[.pointer (some e)] 126)):=by
  unfold As.w3 As.w2 As.w1
  exact ((((Fr.refl [] w).alloc _).alloc _).alloc _).alloc _
 exact World.cell?_setCell_same _ _ _ (hf.cell h (by simp))
set_option maxRecDepth 10000 in
set_option maxHeartbeats 2000000 in
theorem number_hit (P:Nat) (x:Int) (w:World) (hg:w.cell? ⟨0,0,none⟩=some (As.rty 86)) (hx:w.cell? ⟨P,0,none⟩=some (.int .i64 x)) :
 Calls Tryz.prog 37 #[.iface 126 (.pointer (some ⟨P,0,none⟩))] w fun e w'=>e=.returned (.int .i64 x)∧Fr [] w w':=by
 obtain ⟨v,hv⟩:∃ v,v=w.alloc (.cells #[.pointer none] 126):=⟨_,rfl⟩
 have fv:Fr [] w v:=by rw [hv];exact (Fr.refl [] w).alloc _
 have hP:P < w.heap.size:=by
  rcases Nat.lt_or_ge P w.heap.size with h | h
  ·exact h
  ·simp [World.cell?,Array.getElem?_eq_none h] at hx
 have gv:v.cell? ⟨0,0,none⟩=some (As.rty 86):=fv.cell hg (by simp)
 have tv:v.cell? ⟨w.heap.size,0,none⟩=some (.pointer none):=by rw [hv];simp
 have zv:v.frozen? ⟨w.heap.size,0,none⟩=false:=by rw [hv];simp
 have HA:=hid (As.as_hit ⟨P,0,none⟩ ⟨w.heap.size,0,none⟩ _ v gv tv zv)
 have f4:=As.w4_fr v ⟨P,0,none⟩ w.heap.size
 have c4:=As.w4_cell v ⟨P,0,none⟩ w.heap.size _ tv
 have x4:(As.w4 v ⟨P,0,none⟩ ⟨w.heap.size,0,none⟩).cell? ⟨P,0,none⟩=some (.int .i64 x):=f4.cell (fv.cell hx (by simp)) (by simp;omega)
 have HF:=hid ((fv.mono (T:=[w.heap.size]) (by simp)).trans f4)
 generalize As.w4 v ⟨P,0,none⟩ ⟨w.heap.size,0,none⟩=W at *
 clear f4 gv tv zv fv
 subst hv
 go_enter Tryz.func37,Tryz.ntmps37
 go_wp2_with (first | (go_at_call 71;refine HA.out.mono ?_;rintro e w1 ⟨rfl,rfl⟩))
 go_ret
 exact ⟨rfl,HF.out.mono (by simp)⟩
end Go.Proofs.YtnakejhohdbfdaaGreatDoor
namespace Go.Proofs.YtnakejhohdbfdaaGreatDoor
open Go.RowKit Lev
end Go.Proofs.YtnakejhohdbfdaaGreatDoor
namespace Go.Proofs.YtnakejhohdbfdaaGreatDoor
open Go.RowKit Lev Lay Bnd
structure Floor (w:World):Prop where
 u:Lib.Utf8Tabs 1 2 w
 t3:Cls.TabAt w 3 Tabs.lowTab
 t4:Cls.TabAt w 4 Tabs.highTab
 t9:Cls.TabAt w 9 Tabs.kindTab
 e0:w.cell? ⟨0,0,none⟩=some (As.rty 86)
 e5:errAt w 5
 e6:errAt w 6
 e7:errAt w 7
 e8:errAt w 8
theorem errAt.fr {w w':World} {g:Nat} (h:errAt w g) (hf:Fr [] w w'):errAt w' g:=by
 obtain ⟨t,v,h⟩:=h
 exact ⟨t,v,hf.cell h List.not_mem_nil⟩
theorem Floor.fr {w w':World} (h:Floor w) (hf:Fr [] w w'):Floor w' :=
 ⟨Cls.tabs_below h.u (hf.below (Nat.le_refl _) (fun _ h=>absurd h List.not_mem_nil)),tab_fr h.t3 hf,tab_fr h.t4 hf,tab_fr h.t9 hf,hf.cell h.e0 List.not_mem_nil,h.e5.fr hf,h.e6.fr hf,h.e7.fr hf,h.e8.fr hf⟩
def faultAt (w:World) (x:Value) (c:Int):Prop:=∃ P,x=.iface 126 (.pointer (some ⟨P,0,none⟩))∧w.cell? ⟨P,0,none⟩=some (.int .i64 c)
set_option maxRecDepth 10000 in
set_option maxHeartbeats 4000000 in
theorem ckP_bad (s:ByteArray) (b x:Int) (vW vB:Value) (w:World)
 (hc:∀ w',Calls Tryz.prog 36 #[.string s,.int .i64 b] w' fun e w2=>e=.returned (.iface 126 (.pointer (some ⟨w'.heap.size,0,none⟩)))∧w2=faulty w' x) :
 Calls Tryz.prog 162 #[.agg #[.string s,.int .i64 b,vW,vB]] w fun e w'=>∃ v,e=.returned v∧faultAt w' v x∧Fr [] w w':=by
 have HC:=hid hc
 clear hc
 go_enter Tryz.func162,Tryz.ntmps162
 go_wp2_with (go_at_call 36;refine (HC.out _).mono ?_;rintro e w' ⟨rfl,rfl⟩)
 go_ret
 exact ⟨_,rfl,⟨_,rfl,by simp [faulty]⟩,((Fr.refl [] w).alloc _).alloc _⟩
theorem second_last {s:ByteArray} {n:Nat} (h:Dec.Ends s n):nix (bix s n) ((bix s n).length - 2) ≤ n∧nth (bnd s n) ((bnd s n).length - 2)=((Dec.pos s (nix (bix s n) ((bix s n).length - 2)):Nat):Int):=by
 have hl:=bix_len s n
 refine ⟨?_,?_⟩
 ·rcases Nat.lt_or_eq_of_le (show (bix s n).length - 2 ≤ cn s n by rw [cn];omega) with h1 | h1
  ·have:=nix_lt (bix_sorted s n) h1 (by rw [cn];omega);rw [bix_last] at this;omega
  ·rw [h1,bix_last];exact Nat.le_refl _
 ·rw [bnd_length h];exact bnd_nth h (by omega)
theorem chk_in {s:ByteArray} {n:Nat} {b:Int} {W Br:List Int} (h:Dec.Ends s n) (hs:s.size ≤ 400) (hb:b=0∨b=1∨b=2):chk s n (clsOf s n) b W Br=if okW W n=false then 3 else if Lay.brTo (bnd s n) s.size Br Br.length=false then 4 else if anyB (clsOf s n) (nix (bix s n) ((bix s n).length - 2))=true then 5 else 0:=by
 have h2:=second_last h
 rw [chk,if_neg (by omega),if_neg (by omega),h2.2,early_anyB (Dec.pos_mono s),show min n (nix (bix s n) ((bix s n).length - 2))=nix (bix s n) ((bix s n).length - 2) by have:=h2.1;omega]
 unfold okW
 by_cases h1:W.length=n
 ·cases h3:Lay.wOk W n
  ·rw [if_pos (.inr rfl),if_pos (by simp)]
  ·rw [if_neg (show ¬ (W.length ≠ n∨true=false) by simp [h1]),if_neg (show ¬ ((decide (W.length=n) && true)=false) by simp [h1])]
 ·rw [if_pos (.inl h1),if_pos (by simp [h1])]
set_option maxRecDepth 10000 in
set_option maxHeartbeats 4000000 in
theorem ckP_rest (s:ByteArray) (b:Int) (vW vB:Value) (W Br:List Int) (n:Nat) (w:World) (hs:s.size ≤ 400) (hb:b=0∨b=1∨b=2) (hF:Floor w) (hend:Dec.Ends s n) (hW:slAt w vW W) (hWl:W.length ≤ 5000) (hB:slAt w vB Br) (hBl:Br.length ≤ 5000) :
 Calls Tryz.prog 162 #[.agg #[.string s,.int .i64 b,vW,vB]] w fun e w'=>∃ v,e=.returned v∧((v=.nilIface∧chk s n (clsOf s n) b W Br=0)∨(chk s n (clsOf s n) b W Br ≠ 0∧faultAt w' v (chk s n (clsOf s n) b W Br)))∧Fr [] w w':=by
 obtain ⟨R,hR⟩:∃ R,R=chk s n (clsOf s n) b W Br:=⟨_,rfl⟩
 rw [← hR]
 have HR:=hid (hR.trans (chk_in hend hs hb))
 have hn4:n ≤ 400:=by have:=Dec.le_pos s n;have:=hend.1;omega
 obtain ⟨wb,hwb⟩:∃ wb,wb=w.alloc (.cells #[.string s,.int .i64 b,vW,vB] 35):=⟨_,rfl⟩
 have HFb:=hid (show Fr [] w wb by rw [hwb];exact (Fr.refl [] w).alloc _)
 have HOB:=hid (show wb.heap[w.heap.size]?=some (.cells #[.string s,.int .i64 b,vW,vB] 35 (0,0)) by rw [hwb];exact obj_new w _)
 have HFL:=hid (fun (X:World) (hf:Fr [] w X)=>hF.fr hf)
 have H31:=hid (check_ok s b wb hs hb)
 have H193:=hid (ckW_any s n W vW wb hs hend (hW.fr HFb.out) hWl (HFL.out wb HFb.out).e5 (HFL.out wb HFb.out).e6)
 have H194:=hid (fun (X:World) (hf:Fr [] w X)=>Cls.fn25_any s X (by omega) (HFL.out X hf).t9)
 have H195:=hid (fun (X:World) (hf:Fr [] w X) g c (hr:rowAt X g (bnd s n).length (bnd s n))=>ckB_any (bnd s n) s.size (rises_bnd hend) ⟨by omega,by omega⟩ Br vB g c X (by have:=(bnd_len s n).2;omega) hr (hB.fr hf) hBl (HFL.out X hf).e7 (HFL.out X hf).e8)
 have H196:=hid (fun (X:World) (hf:Fr [] w X) g c (hr:rowAt X g (bnd s n).length (bnd s n))=>early_any s n _ (bnd s n) g c X hs hend (second_last hend).1 (by have:=(bnd_len s n).2;omega) (bnd_len s n).1 hr (second_last hend).2 (HFL.out X hf).t3 (HFL.out X hf).t4)
 have HE:=hid hend
 have hbl:=bnd_len s n
 have HBE:=hid hbl
 obtain ⟨nb,hnb⟩:∃ nb,nb=(bnd s n).length:=⟨_,rfl⟩
 rw [← hnb] at H195 H196 hbl
 have HNB:=hid hnb
 generalize anyB (clsOf s n) (nix (bix s n) ((bix s n).length - 2))=ea at *
 obtain ⟨ow,how⟩:∃ ow,ow=okW W n:=⟨_,rfl⟩
 obtain ⟨ob,hob⟩:∃ ob,ob=Lay.brTo (bnd s n) s.size Br Br.length:=⟨_,rfl⟩
 rw [← how] at H193 HR
 rw [← hob] at H195 HR
 clear hR hend hW hB hF hnb how hob hb
 go_enter Tryz.func162,Tryz.ntmps162
 go_wp2_with fail
 rw [← hwb]
 have k0:=obj_cell HOB.out (i:=0) rfl
 have k2:=obj_cell HOB.out (i:=2) rfl
 clear hwb
 refine H31.out.mono ?_
 rintro e w1 ⟨rfl,rfl⟩
 go_wp2_with fail
 refine H193.out.mono ?_
 rintro e w2 ⟨x,rfl,hx,hf2⟩
 have HF2:=hid (HFb.out.trans hf2)
 have HOB2:=hid (obj_fr HOB.out hf2 List.not_mem_nil)
 clear hf2 k0 k2 H193 H31
 rcases hx with ⟨t,u,rfl,rfl⟩ | ⟨rfl,rfl⟩
 ·have HRv:=hid (show R=3 by rw [HR.out,if_pos rfl])
  go_wp2
  go_ret
  exact ⟨_,rfl,.inr ⟨by rw [HRv.out];decide,_,rfl,by rw [HRv.out];simp⟩,HF2.out.alloc _⟩
 ·have HR2:=hid (show R=if ob=false then 4 else if ea=true then 5 else 0 by rw [HR.out,if_neg (by simp)])
  have k0:=obj_cell HOB2.out (i:=0) rfl
  have H4:=hid (H194.out w2 HF2.out)
  clear HR
  go_wp2_with fail
  refine H4.out.mono ?_
  rintro e w3 ⟨n',v,hn',rfl,own,hb3⟩
  obtain rfl:=Dec.ends_unique HE.out hn'
  have HF3:=hid (HF2.out.trans (Fr.of_below (S:=[]) hb3))
  have HOB3:=hid (obj_fr HOB2.out (Fr.of_below (S:=[]) hb3) List.not_mem_nil)
  have own':=own
  rw [← HNB.out] at own'
  obtain ⟨gB,cB,hv⟩:=owns_shape (by omega) own'
  subst hv
  have HRW:=hid (show rowAt w3 gB nb (bnd s n) from fun j hj=>by rw [own'.cellAt j (by omega),ints64_at (by rw [← HNB.out];exact hj)])
  have H5:=hid (H195.out w3 HF3.out gB cB HRW.out)
  clear own own' hb3 hn' H4 k0
  have k3:=obj_cell HOB3.out (i:=3) rfl
  go_wp2_with fail
  refine H5.out.mono ?_
  rintro e w4 ⟨x,rfl,hx,hf4⟩
  have HF4:=hid (HF3.out.trans hf4)
  have HOB4:=hid (obj_fr HOB3.out hf4 List.not_mem_nil)
  have HRW4:=hid (HRW.out.fr hf4 List.not_mem_nil)
  clear hf4 k3 H5
  rcases hx with ⟨t,u,rfl,rfl⟩ | ⟨rfl,rfl⟩
  ·have HRv:=hid (show R=4 by rw [HR2.out,if_pos rfl])
   go_wp2
   go_ret
   exact ⟨_,rfl,.inr ⟨by rw [HRv.out];decide,_,rfl,by rw [HRv.out];simp⟩,HF4.out.alloc _⟩
  ·have HR3:=hid (show R=if ea=true then 5 else 0 by rw [HR2.out,if_neg (by simp)])
   have k0:=obj_cell HOB4.out (i:=0) rfl
   have H6:=hid (H196.out w4 HF4.out gB cB HRW4.out)
   cases ea
   ·have HRv:=hid (show R=0 by rw [HR3.out];rfl)
    go_wp2_with (go_at_call 203;refine H6.out.mono ?_;rintro e w5 ⟨rfl,hf5⟩;have HF5:=hid (HF4.out.trans hf5);clear hf5)
    go_ret
    exact ⟨_,rfl,.inl ⟨rfl,HRv.out⟩,HF5.out⟩
   ·have HRv:=hid (show R=5 by rw [HR3.out];rfl)
    go_wp2_with (go_at_call 203;refine H6.out.mono ?_;rintro e w5 ⟨rfl,hf5⟩;have HF5:=hid (HF4.out.trans hf5);clear hf5)
    go_ret
    exact ⟨_,rfl,.inr ⟨by rw [HRv.out];decide,_,rfl,by rw [HRv.out];simp⟩,HF5.out.alloc _⟩
end Go.Proofs.YtnakejhohdbfdaaGreatDoor
namespace Go.Proofs.YtnakejhohdbfdaaGreatDoor
open Go.RowKit Lev Lay
set_option maxRecDepth 10000 in
set_option maxHeartbeats 2000000 in
theorem ended_nil (v:Value) (w:World):Calls Tryz.prog 164 #[v,.int .i64 0,.int .i64 0] w fun e w'=>e=.returned (.slice none 0 0)∧w'=w:=by
 go_enter Tryz.func164,Tryz.ntmps164
 go_wp2_with fail
 go_loop [7,8] (fun a b=>a=.slice none 0 0∧b=.int .i64 0) (fun _ _=>0)
 case atStart=>exact ⟨rfl,rfl⟩
 case round =>
  obtain ⟨rfl,rfl⟩:=hrel
  go_wp2
  go_ret
  exact ⟨rfl,rfl⟩
set_option maxRecDepth 10000 in
set_option maxHeartbeats 2000000 in
theorem ord_nil (w:World):Calls Tryz.prog 165 #[.slice none 0 0] w fun e w'=>e=.returned (.slice none 0 0)∧w'=w:=by
 go_enter Tryz.func165,Tryz.ntmps165
 go_wp2_with fail
 go_loop [3,4,5] (fun a b c=>a=.slice none 0 0∧b=.int .i64 0∧c=.int .i64 0) (fun _ _ _=>0)
 case atStart=>exact ⟨rfl,rfl,rfl⟩
 case round =>
  obtain ⟨rfl,rfl,rfl⟩:=hrel
  go_wp2_with fail
  go_loop [6] (fun a=>a=.int .i64 0) (fun _=>0)
  case atStart=>rfl
  case round =>
   obtain rfl:=hrel
   go_wp2
   go_ret
   exact ⟨rfl,rfl⟩
theorem line_one0 (a b:Int) (c d:Option Addr) (e f g h:Nat):∀ u ∈ [Value.int .i64 a,.int .i64 b,.slice c e f,.slice d g h],u.oneCell'=true:=by
 intro u hu
 simp only [List.mem_cons,List.not_mem_nil,or_false] at hu
 rcases hu with rfl | rfl | rfl | rfl <;> rfl
set_option maxRecDepth 10000 in
set_option maxHeartbeats 4000000 in
theorem line_nil (WB w:World) (lb p gB cB:Nat) (vW:Value) (s:ByteArray) (base:Int) (U:Nat) (hL:LD WB w U lb s base (.slice none 0 0) (.slice none 0 0) [] [] []) (hU:U ≤ w.heap.size) (c0:w.cell? ⟨p,0,none⟩=some (.slice none 0 0)) :
 Calls Tryz.prog 96 #[.pointer (some ⟨lb,0,none⟩),.pointer (some ⟨p,0,none⟩),vW,.slice (some ⟨gB,0,none⟩) 1 cB,.int .i64 0,.int .i64 0] w
  fun e w'=>e=.returned (.tuple #[])∧∃ vC' vL' hs',LD WB w' w'.heap.size lb s base vC' vL' [] [⟨0,0,[],[0]⟩] hs':=by
 obtain ⟨i51,hi51,hx0,hx1,hx2⟩:=info_parts info51
 have HL:=hid hL
 have m2:=obj_cell hL.obj (i:=2) rfl
 have m3:=obj_cell hL.obj (i:=3) rfl
 have f3:=obj_froz hL.obj 3
 have hsz:=hL.fr.size
 have hlb:=obj_lt hL.obj
 have hlw:=hL.lt
 clear hL
 go_enter Tryz.func96,Tryz.ntmps96
 go_wp2_with fail
 go_loop [12] (fun a=>a=.int .i64 0) (fun _=>0)
 case atStart=>rfl
 case round =>
  obtain rfl:=hrel
  go_wp2_with fail
  go_loop [13] (fun a=>a=.int .i64 0) (fun _=>0)
  case atStart=>rfl
  case round =>
   obtain rfl:=hrel
   go_wp2_with (go_at_call 164;refine (ended_nil _ _).mono ?_;rintro e w' ⟨rfl,rfl⟩)
   go_loop [16,17] (fun a b=>a=.slice none 0 0∧b=.int .i64 0) (fun _ _=>0)
   case atStart=>exact ⟨rfl,rfl⟩
   case round =>
    obtain ⟨rfl,rfl⟩:=hrel
    go_wp2_with (go_at_call 165;refine (ord_nil _).mono ?_;rintro e w' ⟨rfl,rfl⟩)
    obtain ⟨wx,hwx⟩:∃ wx,wx=w'.alloc (.cells #[.int .i64 0] 2):=⟨_,rfl⟩
    have HLx:=hid (show LD WB wx U lb s base (.slice none 0 0) (.slice none 0 0) [] [] [] by rw [hwx];exact HL.out.fr0 ((Fr.refl [] _).alloc _))
    have HXx:=hid (show wx.ownsRow w'.heap.size 2 1 (.slice (some ⟨w'.heap.size,0,none⟩) 1 1) 1 (ints64 [0]) by rw [hwx];exact World.ownsRow_lit (base:=w'.heap.size) (e:=2) (size:=1) w' #[.int .i64 0] 1 (Nat.le_refl _) (by decide) rfl)
    have hszx:w'.heap.size ≤ wx.heap.size:=by rw [hwx];simp
    rw [← hwx]
    clear hwx m2 m3 f3
    have m3:=obj_cell HLx.out.obj (i:=3) rfl
    go_loop [21,22] (fun a b=>a=.slice (some ⟨w'.heap.size,0,none⟩) 1 1∧b=.int .i64 0) (fun _ _=>0)
    case atStart=>exact ⟨rfl,rfl⟩
    case round =>
     obtain ⟨rfl,rfl⟩:=hrel
     go_wp2_with (at_builtin;refine wpList_append_own _ rfl _ _ 43 rfl WB.heap.size 51 i51 _ 4 64 Tryz.underlying43 hi51 hx0 hx1 hx2 rfl (by decide) _ 0 [] rfl ?own _ 1 1 [.int .i64 0,.int .i64 0,.slice none 0 0,.slice (some ⟨w'.heap.size,0,none⟩) 1 1] rfl rfl (news_at _ _ _ _ (by simp)) (line_one0 _ _ _ _ _ _ _ _) (by decide) (by decide) ?szz ?_)
     case own=>exact World.ownsRow_nil _ _ _ _
     case szz=>first | omega | (simp;omega)
     intro v' w2 hown hgrow hnil
     obtain ⟨g',c',hv'⟩:=owns_shape (by omega) hown
     subst hv'
     have HXX:=hid (HLx.out.line ⟨0,0,[],[0]⟩ rfl ((Fr.refl [] wx).alloc _) (U':=w2.heap.size) (vO:=.slice none 0 0) (by have h5:=hgrow.size;simp at h5;omega) (World.ownsRow_nil _ _ _ _) (owns_low HXx.out (by omega)) (by have h5:=hgrow.size;simp at h5;omega) hown hgrow)
     have g1:=obj_cell HXX.out.1 (i:=3) rfl
     have g2:=obj_froz HXX.out.1 3
     clear hown hgrow hnil m3
     go_wp2
     go_end0
     have h9:=HXX.out.2
     have e9:∀ (X:World) (v:Value),(X.setCell ⟨lb,3,none⟩ v).heap.size=X.heap.size:=fun X v=>by simp
     rw [e9]
     exact ⟨rfl,_,_,_,h9⟩
end Go.Proofs.YtnakejhohdbfdaaGreatDoor

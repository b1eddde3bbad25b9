import Derived.Test.YtnakejhohdbfdaaGreatDoorVao
import Derived.LaidEql
import Derived.Stop.Asserts
import Derived.RowKitTokens
set_option maxHeartbeats 4000000
set_option maxRecDepth 10000
set_option linter.unusedSimpArgs false
namespace Go.Proofs.YtnakejhohdbfdaaGreatDoor
open Go.RowKit jN Go.Proofs.Tryz
theorem Qp (s:ByteArray)(b:Int)(w:World)(hs:s.size<=400)(hb:b=0\/b=1\/b=2) :
 Calls prog 36 #[.string s,.int .i64 b] w fun e w'=>e=.returned .nilIface/\w'=w:=by
 have hsI:(s.size:Int)<=400:=by omega
 have hd1:decide ((400:Int)<(s.size:Int))=false:=aK (by omega);have hd2:decide (400<s.size)=false:=aK (by omega)
 rcases hb with rfl | rfl | rfl
 all_goals
  go_enter func36,ntmps36;go_wp2;go_ret;exact⟨rfl,rfl⟩
def FC (w:World)(x:Int):World:=w.alloc (.cells #[.int .i64 x,.nilIface] 128)
theorem Jw (s:ByteArray)(b:Int)(w:World)(hs:400<s.size) :
 Calls prog 36 #[.string s,.int .i64 b] w fun e w'=>e=.returned (.iface 126 (.pointer (some ⟨w.heap.size,0,none⟩)))/\w'=FC w 1:=by
 have hd1:decide ((400:Int)<(s.size:Int))=true:=aZ (by omega);have hd2:decide (400<s.size)=true:=aZ (by omega);go_enter func36,ntmps36;go_wp2;go_ret;exact⟨rfl,rfl⟩
theorem Jx (s:ByteArray)(b:Int)(w:World)(hs:s.size<=400)(h0:¬b=0)(h1:¬b=1)(h2:¬b=2) :
 Calls prog 36 #[.string s,.int .i64 b] w fun e w'=>e=.returned (.iface 126 (.pointer (some ⟨w.heap.size,0,none⟩)))/\w'=FC w 2:=by
 have hsI:(s.size:Int)<=400:=by omega
 have hd1:decide ((400:Int)<(s.size:Int))=false:=aK (by omega);have hd2:decide (400<s.size)=false:=aK (by omega);have k0:(b != 0)=true:=by simp[h0]
 have k1:(b != 1)=true:=by simp[h1]
 have k2:(b != 2)=true:=by simp[h2]
 go_enter func36,ntmps36;go_wp2;go_ret;exact⟨rfl,rfl⟩
end Go.Proofs.YtnakejhohdbfdaaGreatDoor
namespace Go.Proofs.YtnakejhohdbfdaaGreatDoor.As
open Go.RowKit Go.Extern.Stop Go.Stop Go.Extern Go.Proofs.Tryz
abbrev ty (t:Nat):Value:=.pointer (some ⟨10,t,none⟩)
abbrev KU (t:Nat):Value:=.iface 257 (.agg #[ty t])
abbrev va (t:Nat)(a:Addr):Value:=.agg #[ty t,.pointer (some a),.int .u64 150]
abbrev vv (t:Nat)(a:Addr):Value:=.agg #[ty t,.pointer (some a),.int .u64 406]
theorem Qq (t:Addr)(w:World):(ReflectliteValue.unpack (.iface 130 (.pointer (some t)))).run prog w=.ok (va 130 ⟨w.heap.size,0,none⟩) (w.alloc (.cells #[.pointer (some t)] 130)):=by kernel_rfl
theorem Uy (t:Addr)(w:World):(ReflectliteValue.unpack (.iface 126 (.pointer (some t)))).run prog w=.ok (va 126 ⟨w.heap.size,0,none⟩) (w.alloc (.cells #[.pointer (some t)] 126)):=by kernel_rfl
theorem Qr (h : Value) (w : World) : (Go.method 476 257 (.agg #[h]) "Kind").run prog w = .ok (272, h) w := by kernel_rfl
theorem Qs (h : Value) (w : World) : (Go.method 476 257 (.agg #[h]) "Elem").run prog w = .ok (287, .agg #[h]) w := by kernel_rfl
theorem Qt (h : Value) (w : World) : (Go.method 476 257 (.agg #[h]) "Implements").run prog w = .ok (288, .agg #[h]) w := by kernel_rfl
theorem Qu (h : Value) (w : World) : (Go.method 476 257 (.agg #[h]) "AssignableTo").run prog w = .ok (285, .agg #[h]) w := by kernel_rfl
theorem type100 (a : Addr) (w : World) : (ReflectliteValue.methodAny (ReflectliteValue.valueError "reflectlite.Value.Type" 0) (fun t _ _ _ => ReflectliteType.toType t) #[va 130 a]).run prog w = .ok (KU 130) w := by kernel_rfl
theorem Uz (w:World):((ReflectliteType.abiMethod fun t=>(fun a:Nat=>Value.int IntKind.u8 (a:Int)) <$> Rtype.kind t) #[ty 130]).run prog w=.ok (.int .u8 22) w:=by kernel_rfl
theorem XO (w:World):((ReflectliteType.abiMethod fun t=>(fun a:Nat=>Value.int IntKind.u8 (a:Int)) <$> Rtype.kind t) #[ty 126]).run prog w=.ok (.int .u8 22) w:=by kernel_rfl
theorem UA (w:World):(ReflectliteType.method ReflectliteType.elem #[.agg #[ty 130]]).run prog w=.ok (KU 126) w:=by kernel_rfl
theorem XP (w : World) : (ReflectliteType.relation "Implements" ReflectliteType.implements_ #[.agg #[ty 126], KU 86]).run prog w = .ok (.bool true) w := by kernel_rfl
theorem Qv (v:Value)(w:World):(ReflectliteType.typeOf #[.iface 126 v]).run prog w=.ok (KU 126) w:=by kernel_rfl
theorem XQ (w : World) : (ReflectliteType.relation "AssignableTo" ReflectliteType.assignableTo #[.agg #[ty 126], KU 126]).run prog w = .ok (.bool true) w := by kernel_rfl
theorem MK (w:World):(Rtype.elem? 130).run prog w=.ok (some 126) w:=by kernel_rfl
theorem ae6 (p:Addr)(w:World):(ReflectliteValue.mk 126 p ReflectliteValue.flagAddr).run prog w=.ok (vv 126 p) w:=by kernel_rfl
theorem GZ (a:Addr)(w:World):(ReflectliteValue.parts (va 130 a)).run prog w=.ok (some (130,a,150)) w:=by kernel_rfl
theorem UB (a:Addr)(w:World):(ReflectliteValue.parts (va 126 a)).run prog w=.ok (some (126,a,150)) w:=by kernel_rfl
theorem Qw (a:Addr)(w:World):(ReflectliteValue.parts (vv 126 a)).run prog w=.ok (some (126,a,406)) w:=by kernel_rfl
theorem Qx (w:World):(Rtype.directlyAssignable 126 126).run prog w=.ok true w:=by kernel_rfl
theorem EB (z:Sem Value)(f:TypeId->Addr->Nat->Nat->Sem Value)(v:Value)(t:TypeId)(a:Addr)(fl:Nat)(p:Program)(w:World)(h:(ReflectliteValue.parts v).run p w=.ok (some (t,a,fl)) w) :
 (ReflectliteValue.method z f #[v]).run p w=(f t a fl (fl % 32)).run p w:=by
 change (Bind.bind (ReflectliteValue.parts v) _).run p w=_
 rw[Sem.run_bind,h];rfl
theorem Qy (a p:Addr)(W:World)(ha:W.cell? a=some (.pointer (some p))) :
 (ReflectliteValue.method (ReflectliteValue.valueError "reflectlite.Value.IsNil" 0) ReflectliteValue.isNil #[va 130 a]).run prog W = .ok (.bool false) W := by
 rw[EB _ _ _ _ _ _ _ _ (GZ a W)];simp[ReflectliteValue.isNil,loadVar,isAgg,underlying,underlying130,ha,Result.andThen]
theorem Qz (a p:Addr)(W:World)(ha:W.cell? a=some (.pointer (some p))) :
 (ReflectliteValue.method (ReflectliteValue.valueError "reflectlite.Value.Elem" 0) ReflectliteValue.elem #[va 130 a]).run prog W = .ok (vv 126 p) W := by
 rw[EB _ _ _ _ _ _ _ _ (GZ a W)];simp[ReflectliteValue.elem,loadVar,isAgg,underlying,underlying130,ha,Result.andThen,MK,ae6]
theorem aa7 (ta b e:Addr)(old:Value)(W:World)(hb:W.cell? b=some (.pointer (some e)))(ht:W.cell? ta=some old)(hf:W.frozen? ta=false) :
 (ReflectliteValue.set #[vv 126 ta,va 126 b]).run prog W=.ok (.tuple #[]) (W.setCell ta (.pointer (some e))):=by
 change (Bind.bind (ReflectliteValue.parts (vv 126 ta)) _).run prog W=_
 rw[Sem.run_bind,Qw]
 change (Bind.bind (ReflectliteValue.parts (va 126 b)) _).run prog W=_
 rw[Sem.run_bind,UB];simp[ReflectliteValue.flagAddr,loadVar,isAgg,underlying,underlying126,hb,Result.andThen,Qx,storeVar,Value.cells,storeCells,Addr.add];rw[run_store prog W ta _ _ (by rfl)];simp[ht,hf]
def w1 (w:World)(t:Addr):World:=w.alloc (.cells #[.pointer (some t)] 130)
def w2 (w:World)(t:Addr):World:=(w1 w t).alloc (.cells #[ty 130,.pointer (some ⟨w.heap.size,0,none⟩),.int .u64 150] 190)
def w3 (w:World)(t:Addr):World:=(w2 w t).alloc (.cells #[ty 130,.pointer (some ⟨w.heap.size,0,none⟩),.int .u64 150] 190)
def w4 (w:World)(e t:Addr):World:=((w3 w t).alloc (.cells #[.pointer (some e)] 126)).setCell t (.pointer (some e))
theorem XR (e t:Addr)(old:Value)(w:World)(hg:w.cell? ⟨0,0,none⟩=some (KU 86))(ht0:w.cell? t=some old)(hf0:w.frozen? t=false) :
 Calls prog 71 #[.iface 126 (.pointer (some e)),.iface 130 (.pointer (some t))] w fun ev w'=>ev=.returned (.bool true)/\w'=w4 w e t:=by
 have h93:=@run_callFunc_extern prog 120 _ (fun args=>ReflectliteValue.unpack (args.getD 0 (.tuple #[]))) func120 (by kernel_rfl) (by kernel_rfl) (by kernel_rfl) (by kernel_rfl)
 have h94 := @run_callFunc_extern prog 121 _ (ReflectliteValue.methodAny (ReflectliteValue.valueError "reflectlite.Value.Type" 0) (fun t _ _ _ => ReflectliteType.toType t)) func121 (by kernel_rfl) (by kernel_rfl) (by kernel_rfl) (by kernel_rfl)
 have h95 := @run_callFunc_extern prog 122 _ (ReflectliteValue.method (ReflectliteValue.valueError "reflectlite.Value.IsNil" 0) ReflectliteValue.isNil) func122 (by kernel_rfl) (by kernel_rfl) (by kernel_rfl) (by kernel_rfl)
 have aj3:=@run_callFunc_extern prog 272 _ (ReflectliteType.abiMethod fun t=>do pure (.int .u8 (<-Rtype.kind t))) func272 (by kernel_rfl) (by kernel_rfl) (by kernel_rfl) (by kernel_rfl);have aj4:=@run_callFunc_extern prog 287 _ (ReflectliteType.method ReflectliteType.elem) func287 (by kernel_rfl) (by kernel_rfl) (by kernel_rfl) (by kernel_rfl)
 have aj5 := @run_callFunc_extern prog 288 _ (ReflectliteType.relation "Implements" ReflectliteType.implements_) func288 (by kernel_rfl) (by kernel_rfl) (by kernel_rfl) (by kernel_rfl)
 have aj6:=@run_callFunc_extern prog 176 _ ReflectliteType.typeOf func176 (by kernel_rfl) (by kernel_rfl) (by kernel_rfl) (by kernel_rfl)
 have aj7 := @run_callFunc_extern prog 285 _ (ReflectliteType.relation "AssignableTo" ReflectliteType.assignableTo) func285 (by kernel_rfl) (by kernel_rfl) (by kernel_rfl) (by kernel_rfl)
 have aj8 := @run_callFunc_extern prog 177 _ (ReflectliteValue.method (ReflectliteValue.valueError "reflectlite.Value.Elem" 0) ReflectliteValue.elem) func177 (by kernel_rfl) (by kernel_rfl) (by kernel_rfl) (by kernel_rfl)
 have aj9:=@run_callFunc_extern prog 178 _ ReflectliteValue.set func178 (by kernel_rfl) (by kernel_rfl) (by kernel_rfl) (by kernel_rfl);have f1:=Qv;have f2:=Qu;have f3:=XQ;have f4:=Uy;have f5:=Qq;have f6:=type100;have f7:=Qr;have f8:=Qs;have f9:=Qt;have f10:=Uz;have f11:=XO;have f12:=UA;have f13:=XP;have hlt:0<w.heap.size:=by
  rcases aS w.heap.size with h0 | h
  ·simp[World.cell?,h0]at hg
  ·exact h
 have htl:t.block<w.heap.size:=by
  rcases bP t.block w.heap.size with h | h
  ·exact h
  ·simp[World.cell?,Array.getElem?_eq_none h]at ht0
 have n8:=Qy ⟨w.heap.size,0,none⟩ t (w2 w t) (by simp[w2,w1]);have hg2:(w2 w t).cell? ⟨0,0,none⟩=some (KU 86):=by
  rw[w2,fM _ _ ⟨0,0,none⟩ (by simp[w1]),w1,fM _ _ ⟨0,0,none⟩ hlt];exact hg
 have el:=Qz ⟨w.heap.size,0,none⟩ t (w3 w t) (by rw[w3,fM _ _ _ (by simp[w2,w1];omega)];simp[w2,w1]);have st:=aa7 t ⟨w.heap.size+1+1+1,0,none⟩ e old ((w3 w t).alloc (.cells #[.pointer (some e)] 126))
  (by rw[eZ _ _ _ _ (by simp[w3,w2,w1])];rfl)
  (by rw[fM _ _ t (by simp[w3,w2,w1];omega),w3,fM _ _ t (by simp[w2,w1];omega),w2,fM _ _ t (by simp[w1];omega),w1,fM _ _ t htl];exact ht0)
  (by rw[World.frozen?_alloc_old _ _ t (by simp[w3,w2,w1];omega),w3,World.frozen?_alloc_old _ _ t (by simp[w2,w1];omega),w2,World.frozen?_alloc_old _ _ t (by simp[w1];omega),w1,World.frozen?_alloc_old _ _ t (Nat.ne_of_lt htl)];exact hf0)
 unfold w4;dsimp only[w3,w2,w1,ty,KU,va,vv]at *;go_enter func71,ntmps71;go_wp2;refine wp_loop_rounds 1 ?_;rw[rounds_succ];go_wp2;go_ret;exact⟨rfl,rfl⟩
end Go.Proofs.YtnakejhohdbfdaaGreatDoor.As
namespace Go.Proofs.YtnakejhohdbfdaaGreatDoor
open Go.RowKit jN Go.Proofs.Tryz
theorem As.aa8 (w:World)(e:Addr)(b:Nat):Fr [b] w (As.w4 w e ⟨b,0,none⟩):=by
 unfold As.w4 As.w3 As.w2 As.w1;exact(((((Fr.refl [b] w).alloc _).alloc _).alloc _).alloc _).set (by simp) _
theorem As.UC (w:World)(e:Addr)(b:Nat)(old:Value)(h:w.cell? ⟨b,0,none⟩=some old):(As.w4 w e ⟨b,0,none⟩).cell? ⟨b,0,none⟩=some (.pointer (some e)):=by
 unfold As.w4;have hf:Fr [] w ((As.w3 w ⟨b,0,none⟩).alloc (.cells #[.pointer (some e)] 126)):=by
  unfold As.w3 As.w2 As.w1;exact((((Fr.refl [] w).alloc _).alloc _).alloc _).alloc _
 exact fG _ _ _ (hf.cell h (by simp))
theorem Jy (P:Nat)(x:Int)(w:World)(hg:w.cell? ⟨0,0,none⟩=some (As.KU 86))(hx:w.cell? ⟨P,0,none⟩=some (.int .i64 x)) :
 Calls prog 37 #[.iface 126 (.pointer (some ⟨P,0,none⟩))] w fun e w'=>e=.returned (.int .i64 x)/\Fr [] w w':=by
 obtain⟨v,hv⟩:∃v,v=w.alloc (.cells #[.pointer none] 126):=⟨_,rfl⟩;have fv:Fr [] w v:=by rw[hv];exact(Fr.refl [] w).alloc _
 have hP:P<w.heap.size:=by
  rcases bP P w.heap.size with h | h
  ·exact h
  ·simp[World.cell?,Array.getElem?_eq_none h]at hx
 have gv:v.cell? ⟨0,0,none⟩=some (As.KU 86):=fv.cell hg (by simp);have tv:v.cell? ⟨w.heap.size,0,none⟩=some (.pointer none):=by rw[hv];simp
 have zv:v.frozen? ⟨w.heap.size,0,none⟩=false:=by rw[hv];simp
 have HA:=hid (As.XR ⟨P,0,none⟩ ⟨w.heap.size,0,none⟩ _ v gv tv zv);have f4:=As.aa8 v ⟨P,0,none⟩ w.heap.size;have c4:=As.UC v ⟨P,0,none⟩ w.heap.size _ tv;have x4:(As.w4 v ⟨P,0,none⟩ ⟨w.heap.size,0,none⟩).cell? ⟨P,0,none⟩=some (.int .i64 x):=f4.cell (fv.cell hx (by simp)) (by simp;omega);have HF:=hid ((fv.mono (T:=[w.heap.size]) (by simp)).trans f4);generalize As.w4 v ⟨P,0,none⟩ ⟨w.heap.size,0,none⟩=W at *;clear f4 gv tv zv fv;subst hv;go_enter func37,ntmps37;go_wp2_with (first | (go_at_call 71;refine HA.out.mono ?_;rintro e w1 ⟨rfl,rfl⟩));go_ret;exact⟨rfl,HF.out.mono (by simp)⟩
open Lay uS
structure Floor (w:World):Prop where
 u:Lib.Utf8Tabs 1 2 w
 t3:mE.TabAt w 3 iK.iN
 t4:mE.TabAt w 4 iK.g_
 t9:mE.TabAt w 9 iK.gD
 e0:w.cell? ⟨0,0,none⟩=some (As.KU 86)
 e5:s7 w 5
 e6:s7 w 6
 e7:s7 w 7
 e8:s7 w 8
theorem s7.fr {w w':World}{g:Nat}(h:s7 w g)(hf:Fr [] w w'):s7 w' g:=by
 obtain⟨t,v,h⟩:=h;exact⟨t,v,hf.cell h af⟩
theorem Floor.fr {w w':World}(h:Floor w)(hf:Fr [] w w'):Floor w' :=
 ⟨mE.oB h.u (hf.below (ak _) (fun _ h=>absurd h af)),wW h.t3 hf,wW h.t4 hf,wW h.t9 hf,hf.cell h.e0 af,h.e5.fr hf,h.e6.fr hf,h.e7.fr hf,h.e8.fr hf⟩
def yz (w:World)(x:Value)(c:Int):Prop:=∃P,x=.iface 126 (.pointer (some ⟨P,0,none⟩))/\w.cell? ⟨P,0,none⟩=some (.int .i64 c)
theorem KV (s:ByteArray)(b x:Int)(vW vB:Value)(w:World)
 (hc:∀w',Calls prog 36 #[.string s,.int .i64 b] w' fun e w2=>e=.returned (.iface 126 (.pointer (some ⟨w'.heap.size,0,none⟩)))/\w2=FC w' x) :
 Calls prog 162 #[.agg #[.string s,.int .i64 b,vW,vB]] w fun e w'=>∃v,e=.returned v/\yz w' v x/\Fr [] w w':=by
 have HC:=hid hc;clear hc;go_enter func162,ntmps162;go_wp2_with (go_at_call 36;refine(HC.out _).mono ?_;rintro e w' ⟨rfl,rfl⟩);go_ret;exact⟨_,rfl,⟨_,rfl,by simp[FC]⟩,((Fr.refl [] w).alloc _).alloc _⟩
theorem um {s:ByteArray}{n:Nat}(h:gJ.Ends s n):fX (jw s n) ((jw s n).length - 2)<=n/\nth (bnd s n) ((bnd s n).length - 2)=((gJ.pos s (fX (jw s n) ((jw s n).length - 2)):Nat):Int):=by
 have hl:=jk s n;refine⟨?_,?_⟩
 ·rcases aA (show(jw s n).length - 2<=cn s n by rw[cn];omega)with h1 | h1
  ·have:=qT (kR s n) h1 (by rw[cn];omega);rw[kL]at this;omega
  ·rw[h1,kL];exact ak _
 ·rw[j5 h];exact mJ h (by omega)
theorem QA {s:ByteArray}{n:Nat}{b:Int}{W Br:List Int}(h:gJ.Ends s n)(hs:s.size<=400)(hb:b=0\/b=1\/b=2):tu s n (iY s n) b W Br=if okW W n=false then 3 else if Lay.jH (bnd s n) s.size Br Br.length=false then 4 else if zo (iY s n) (fX (jw s n) ((jw s n).length - 2))=true then 5 else 0:=by
 have h2:=um h;rw[tu,au (by omega),au (by omega),h2.2,Cy (gJ.kY s),show min n (fX (jw s n) ((jw s n).length - 2))=fX (jw s n) ((jw s n).length - 2) by have:=h2.1;omega];unfold okW;by_cases h1:W.length=n
 ·cases h3:Lay.Et W n
  ·rw[ay (.inr rfl),ay (by simp)]
  ·rw[au (show ¬(W.length≠n\/true=false) by simp[h1]),au (show ¬((decide (W.length=n) && true)=false) by simp[h1])]
 ·rw[ay (.inl h1),ay (by simp[h1])]
theorem G0 (s:ByteArray)(b:Int)(vW vB:Value)(W Br:List Int)(n:Nat)(w:World)(hs:s.size<=400)(hb:b=0\/b=1\/b=2)(hF:Floor w)(hend:gJ.Ends s n)(hW:mA w vW W)(tJ:W.length<=5000)(hB:mA w vB Br)(hBl:Br.length<=5000) :
 Calls prog 162 #[.agg #[.string s,.int .i64 b,vW,vB]] w fun e w'=>∃v,e=.returned v/\((v=.nilIface/\tu s n (iY s n) b W Br=0)\/(tu s n (iY s n) b W Br≠0/\yz w' v (tu s n (iY s n) b W Br)))/\Fr [] w w':=by
 obtain⟨R,hR⟩:∃R,R=tu s n (iY s n) b W Br:=⟨_,rfl⟩;rw[<-hR];have HR:=hid (hR.trans (QA hend hs hb));have DC:n<=400:=by have:=gJ.lU s n;have:=hend.1;omega
 obtain⟨wb,hwb⟩:∃wb,wb=w.alloc (.cells #[.string s,.int .i64 b,vW,vB] 35):=⟨_,rfl⟩;have nD:=hid (show Fr [] w wb by rw[hwb];exact(Fr.refl [] w).alloc _);have qy:=hid (show wb.heap[w.heap.size]?=some (.cells #[.string s,.int .i64 b,vW,vB] 35 (0,0)) by rw[hwb];exact fU w _);have Ag:=hid (fun(X:World) (hf:Fr [] w X)=>hF.fr hf);have H31:=hid (Qp s b wb hs hb);have XS:=hid (Un s n W vW wb hs hend (hW.fr nD.out) tJ (Ag.out wb nD.out).e5 (Ag.out wb nD.out).e6);have UD:=hid (fun(X:World) (hf:Fr [] w X)=>mE.Cr s X (by omega) (Ag.out X hf).t9);have XT:=hid (fun(X:World) (hf:Fr [] w X) g c (hr:rowAt X g (bnd s n).length (bnd s n))=>Uq (bnd s n) s.size (lP hend) ⟨by omega,by omega⟩ Br vB g c X (by have:=(pK s n).2;omega) hr (hB.fr hf) hBl (Ag.out X hf).e7 (Ag.out X hf).e8);have aa9:=hid (fun(X:World) (hf:Fr [] w X) g c (hr:rowAt X g (bnd s n).length (bnd s n))=>MI s n _ (bnd s n) g c X hs hend (um hend).1 (by have:=(pK s n).2;omega) (pK s n).1 hr (um hend).2 (Ag.out X hf).t3 (Ag.out X hf).t4);have HE:=hid hend;have hbl:=pK s n;have HBE:=hid hbl;obtain⟨nb,hnb⟩:∃nb,nb=(bnd s n).length:=⟨_,rfl⟩;rw[<-hnb]at XT aa9 hbl;have sU:=hid hnb;generalize zo (iY s n) (fX (jw s n) ((jw s n).length - 2))=ea at *;obtain⟨ow,how⟩:∃ow,ow=okW W n:=⟨_,rfl⟩;obtain⟨ob,GV⟩:∃ob,ob=Lay.jH (bnd s n) s.size Br Br.length:=⟨_,rfl⟩;rw[<-how]at XS HR;rw[<-GV]at XT HR;clear hR hend hW hB hF hnb how GV hb;go_enter func162,ntmps162;go_wp2_with fail;rw[<-hwb];have k0:=fN qy.out (i:=0) rfl;have k2:=fN qy.out (i:=2) rfl;clear hwb;refine H31.out.mono ?_;rintro e w1 ⟨rfl,rfl⟩;go_wp2_with fail;refine XS.out.mono ?_;rintro e w2 ⟨x,rfl,hx,hf2⟩;have f_:=hid (nD.out.trans hf2);have Fx:=hid (fO qy.out hf2 af);clear hf2 k0 k2 XS H31
 rcases hx with⟨t,u,rfl,rfl⟩ | ⟨rfl,rfl⟩
 ·have xE:=hid (show R=3 by rw[HR.out,ay rfl])
  go_wp2;go_ret;exact⟨_,rfl,.inr ⟨by rw[xE.out];decide,_,rfl,by rw[xE.out];simp⟩,f_.out.alloc _⟩
 ·have HR2:=hid (show R=if ob=false then 4 else if ea=true then 5 else 0 by rw[HR.out,au (by simp)])
  have k0:=fN Fx.out (i:=0) rfl;have H4:=hid (UD.out w2 f_.out);clear HR;go_wp2_with fail;refine H4.out.mono ?_;rintro e w3 ⟨n',v,hn',rfl,own,hb3⟩;obtain rfl:=gJ.jT HE.out hn';have iO:=hid (f_.out.trans (Fr.of_below (S:=[]) hb3));have wX:=hid (fO Fx.out (Fr.of_below (S:=[]) hb3) af);have own':=own;rw[<-sU.out]at own';obtain⟨gB,cB,hv⟩:=fR (by omega) own';subst hv;have HRW:=hid (show rowAt w3 gB nb (bnd s n)from fun j hj=>by rw[own'.cellAt j (by omega),iJ (by rw[<-sU.out];exact hj)]);have H5:=hid (XT.out w3 iO.out gB cB HRW.out);clear own own' hb3 hn' H4 k0;have k3:=fN wX.out (i:=3) rfl;go_wp2_with fail;refine H5.out.mono ?_;rintro e w4 ⟨x,rfl,hx,jl⟩;have gP:=hid (iO.out.trans jl);have ae7:=hid (fO wX.out jl af);have UE:=hid (HRW.out.fr jl af);clear jl k3 H5
  rcases hx with⟨t,u,rfl,rfl⟩ | ⟨rfl,rfl⟩
  ·have xE:=hid (show R=4 by rw[HR2.out,ay rfl])
   go_wp2;go_ret;exact⟨_,rfl,.inr ⟨by rw[xE.out];decide,_,rfl,by rw[xE.out];simp⟩,gP.out.alloc _⟩
  ·have HR3:=hid (show R=if ea=true then 5 else 0 by rw[HR2.out,au (by simp)])
   have k0:=fN ae7.out (i:=0) rfl;have H6:=hid (aa9.out w4 gP.out gB cB UE.out);cases ea
   ·have xE:=hid (show R=0 by rw[HR3.out];rfl)
    go_wp2_with (go_at_call 203;refine H6.out.mono ?_;rintro e w5 ⟨rfl,jC⟩;have jP:=hid (gP.out.trans jC);clear jC);go_ret;exact⟨_,rfl,.inl ⟨rfl,xE.out⟩,jP.out⟩
   ·have xE:=hid (show R=5 by rw[HR3.out];rfl)
    go_wp2_with (go_at_call 203;refine H6.out.mono ?_;rintro e w5 ⟨rfl,jC⟩;have jP:=hid (gP.out.trans jC);clear jC);go_ret;exact⟨_,rfl,.inr ⟨by rw[xE.out];decide,_,rfl,by rw[xE.out];simp⟩,jP.out.alloc _⟩
end Go.Proofs.YtnakejhohdbfdaaGreatDoor
namespace Go.Proofs.YtnakejhohdbfdaaGreatDoor
open Go.RowKit jN Lay Go.Proofs.Tryz
theorem ML (v:Value)(w:World):Calls prog 164 #[v,.int .i64 0,.int .i64 0] w fun e w'=>e=.returned (.slice none 0 0)/\w'=w:=by
 go_enter func164,ntmps164;go_wp2_with fail;go_loop [7,8] (fun a b=>a=.slice none 0 0/\b=.int .i64 0) (fun _ _=>0)
 case atStart=>exact⟨rfl,rfl⟩
 case round =>
  obtain⟨rfl,rfl⟩:=hrel;go_wp2;go_ret;exact⟨rfl,rfl⟩
theorem UF (w:World):Calls prog 165 #[.slice none 0 0] w fun e w'=>e=.returned (.slice none 0 0)/\w'=w:=by
 go_enter func165,ntmps165;go_wp2_with fail;go_loop [3,4,5] (fun a b c=>a=.slice none 0 0/\b=.int .i64 0/\c=.int .i64 0) (fun _ _ _=>0)
 case atStart=>exact⟨rfl,rfl,rfl⟩
 case round =>
  obtain⟨rfl,rfl,rfl⟩:=hrel;go_wp2_with fail;go_loop [6] (fun a=>a=.int .i64 0) (fun _=>0)
  case atStart=>rfl
  case round =>
   obtain rfl:=hrel;go_wp2;go_ret;exact⟨rfl,rfl⟩
theorem MM (a b:Int)(c d:Option Addr)(e f g h:Nat):∀u∈[Value.int .i64 a,.int .i64 b,.slice c e f,.slice d g h],u.oneCell'=true:=by
 intro u hu;simp only[bK,af,eR]at hu
 rcases hu with rfl | rfl | rfl | rfl <;> rfl
theorem QB (WB w:World)(lb p gB cB:Nat)(vW:Value)(s:ByteArray)(base:Int)(U:Nat)(hL:LD WB w U lb s base (.slice none 0 0) (.slice none 0 0) [] [] [])(hU:U<=w.heap.size)(c0:w.cell? ⟨p,0,none⟩=some (.slice none 0 0)) :
 Calls prog 96 #[.pointer (some ⟨lb,0,none⟩),.pointer (some ⟨p,0,none⟩),vW,.slice (some ⟨gB,0,none⟩) 1 cB,.int .i64 0,.int .i64 0] w
  fun e w'=>e=.returned (.tuple #[])/\∃Mc T3 hs',LD WB w' w'.heap.size lb s base Mc T3 [] [⟨0,0,[],[0]⟩] hs':=by
 obtain⟨i51,Ji,hx0,hx1,hx2⟩:=e_ Fm;have HL:=hid hL;have m2:=fN hL.obj (i:=2) rfl;have m3:=fN hL.obj (i:=3) rfl;have f3:=fT hL.obj 3;have hsz:=hL.fr.size;have hlb:=h_ hL.obj;have hlw:=hL.lt;clear hL;go_enter func96,ntmps96;go_wp2_with fail;go_loop [12] (fun a=>a=.int .i64 0) (fun _=>0)
 case atStart=>rfl
 case round =>
  obtain rfl:=hrel;go_wp2_with fail;go_loop [13] (fun a=>a=.int .i64 0) (fun _=>0)
  case atStart=>rfl
  case round =>
   obtain rfl:=hrel;go_wp2_with (go_at_call 164;refine(ML _ _).mono ?_;rintro e w' ⟨rfl,rfl⟩);go_loop [16,17] (fun a b=>a=.slice none 0 0/\b=.int .i64 0) (fun _ _=>0)
   case atStart=>exact⟨rfl,rfl⟩
   case round =>
    obtain⟨rfl,rfl⟩:=hrel;go_wp2_with (go_at_call 165;refine(UF _).mono ?_;rintro e w' ⟨rfl,rfl⟩);obtain⟨wx,hwx⟩:∃wx,wx=w'.alloc (.cells #[.int .i64 0] 2):=⟨_,rfl⟩;have On:=hid (show LD WB wx U lb s base (.slice none 0 0) (.slice none 0 0) [] [] [] by rw[hwx];exact HL.out.iS ((Fr.refl [] _).alloc _));have HXx:=hid (show wx.ownsRow w'.heap.size 2 1 (.slice (some ⟨w'.heap.size,0,none⟩) 1 1) 1 (gu [0]) by rw[hwx];exact fE (base:=w'.heap.size) (e:=2) (size:=1) w' #[.int .i64 0] 1 (ak _) (by decide) rfl);have aka:w'.heap.size<=wx.heap.size:=by rw[hwx];simp
    rw[<-hwx];clear hwx m2 m3 f3;have m3:=fN On.out.obj (i:=3) rfl;go_loop [21,22] (fun a b=>a=.slice (some ⟨w'.heap.size,0,none⟩) 1 1/\b=.int .i64 0) (fun _ _=>0)
    case atStart=>exact⟨rfl,rfl⟩
    case round =>
     obtain⟨rfl,rfl⟩:=hrel;go_wp2_with (at_builtin;refine eV _ rfl _ _ 43 rfl WB.heap.size 51 i51 _ 4 64 underlying43 Ji hx0 hx1 hx2 rfl (by decide) _ 0 [] rfl ?own _ 1 1 [.int .i64 0,.int .i64 0,.slice none 0 0,.slice (some ⟨w'.heap.size,0,none⟩) 1 1] rfl rfl (iC _ _ _ _ (by simp)) (MM _ _ _ _ _ _ _ _) (by decide) (by decide) ?nY ?_)
     case own=>exact eY _ _ _ _
     case nY=>first | omega | (simp;omega)
     intro v' w2 hown hgrow hnil;obtain⟨g',c',hv'⟩:=fR (by omega) hown;subst hv';have Fq:=hid (On.out.line ⟨0,0,[],[0]⟩ rfl ((Fr.refl [] wx).alloc _) (U':=w2.heap.size) (vO:=.slice none 0 0) (by have h5:=hgrow.size;simp at h5;omega) (eY _ _ _ _) (gY HXx.out (by omega)) (by have h5:=hgrow.size;simp at h5;omega) hown hgrow);have g1:=fN Fq.out.1 (i:=3) rfl;have g2:=fT Fq.out.1 3;clear hown hgrow hnil m3;go_wp2;go_end0;have h9:=Fq.out.2;have e9:∀(X:World) (v:Value),(X.setCell ⟨lb,3,none⟩ v).heap.size=X.heap.size:=fun X v=>by simp
     rw[e9];exact⟨rfl,_,_,_,h9⟩
end Go.Proofs.YtnakejhohdbfdaaGreatDoor
namespace Go.Proofs.YtnakejhohdbfdaaGreatDoor
open Go.RowKit jN Go.Proofs.Tryz
structure RW (W wr:World)(v:Value)(rs:List (List Nat))(hs:List Value)(B:Nat):Prop where
 fr:Fr [] W wr
 own:wr.ownsRow W.heap.size 22 1 v rs.length hs
 b0:W.heap.size<=B/\B<=wr.heap.size
 old:∀j,j+1<rs.length->∃g c,hs[j]?=some (.slice (some ⟨g,0,none⟩) (run rs j).length c)/\g<B/\wr.ownsRow W.heap.size 3 1 (.slice (some ⟨g,0,none⟩) (run rs j).length c) (run rs j).length (gz (run rs j))
 last:∀j,j+1=rs.length->∃g c,hs[j]?=some (.slice (some ⟨g,0,none⟩) (run rs j).length c)/\wr.ownsRow B 3 1 (.slice (some ⟨g,0,none⟩) (run rs j).length c) (run rs j).length (gz (run rs j))
 nl:rs.length=0->v=.slice none 0 0
theorem RW.iS {W wr w':World}{v:Value}{rs:List (List Nat)}{hs:List Value}{B:Nat}(h:RW W wr v rs hs B)(hf:Fr [] wr w'):RW W w' v rs hs B :=
 ⟨h.fr.trans hf,fS h.own hf,⟨h.b0.1,a_ h.b0.2 hf.size⟩,
  fun j hj=>by obtain⟨g,c,a1,a2,a3⟩:=h.old j hj;exact⟨g,c,a1,a2,fS a3 hf⟩,
  fun j hj=>by obtain⟨g,c,a1,a2⟩:=h.last j hj;exact⟨g,c,a1,fS a2 hf⟩,h.nl⟩
theorem RW.start (W:World):RW W W (.slice none 0 0) [] [] W.heap.size :=
 ⟨Fr.refl _ _,eY _ _ _ _,⟨ak _,ak _⟩,fun j h=>absurd h (by simp),fun j h=>absurd h (by simp),fun _=>rfl⟩
theorem RW.len {W wr:World}{v:Value}{rs:List (List Nat)}{hs:List Value}{B:Nat}(h:RW W wr v rs hs B):hs.length=rs.length:=by have:=h.own.1;omega
theorem run_set {rs:List (List Nat)}{m:Nat}(hm:m<rs.length)(r:List Nat)(j:Nat):run (rs.set m r) j=if j=m then r else run rs j:=by
 unfold run;by_cases h:j=m
 ·subst h;rw[aQ hm,ay rfl];rfl
 ·rw[aU (fun e=>h e.symm),au h]
theorem uo (rs:List (List Nat))(r:List Nat)(j:Nat)(hj:j<=rs.length):run (rs++[r]) j=if j=rs.length then r else run rs j:=by
 unfold run;by_cases h:j=rs.length
 ·subst h;rw[ay rfl];simp
 ·rw[au h,aJ (by omega)]
theorem RW.grow {W wr w1 w2:World}{rs:List (List Nat)}{hs:List Value}{B n m o cap g c l i:Nat}{r:List Nat}{v':Value}(h:RW W wr (.slice (some ⟨o,0,none⟩) n cap) rs hs B)(hn:n=rs.length)(hm:n=m+1)
 (ho0:wr.ownsRow B 3 1 (.slice (some ⟨g,0,none⟩) l c) l (gz r)) (hl:l=r.length) (hf:Fr [] wr w1)
 (ho:w2.ownsRow B 3 1 v' (l+1) (gz r++[.int .i64 (i:Nat)])) (hg:w1.grownBy w2 (some g)):RW W (w2.setCell ⟨o,m,none⟩ v') (.slice (some ⟨o,0,none⟩) n cap) (rs.set m (r++[i])) (hs.set m v') B:=by
 have h1:=h.iS hf;have hB:=(fZ ho0).1;have hml:m<rs.length:=by omega
 have hao:o≠g:=iT h1.own (fS ho0 hf) (by decide) rfl rfl;have hown:=h1.own;rw[<-hn]at hown;have hown2:=iF hown hg (fun x hx e=>hao (by cases hx;cases e;rfl));obtain⟨hst,hgr⟩:=hown2.stored m v';have hfo:W.heap.size<=o:=(fZ hown).1;have hvs:=fR (by omega) ho;obtain⟨g',c',rfl⟩:=hvs;have XU:o≠g':=iT hown2 ho (by decide) rfl rfl;refine⟨(h1.fr.grown hg (fun k e=>by cases e;have:=h1.b0.1;omega)).grown hgr (fun k e=>by cases e;exact hfo),?_,⟨h1.b0.1,?_⟩,fun j hj=>?_,fun j hj=>?_,fun h0=>?_⟩
 ·rw[aY,<-hn];exact hst
 ·have:=h1.b0.2;have:=hg.size;have:=hgr.size;omega
 ·rw[aY]at hj
  obtain⟨gj,cj,a1,a2,a3⟩:=h1.old j hj;refine⟨gj,cj,?_,a2,?_⟩
  ·rw[run_set hml,au (by omega),aU (by omega)];exact a1
  ·rw[run_set hml,au (by omega)]
   have hoj:o≠gj:=iT h1.own a3 (by decide) rfl rfl;exact iF (iF a3 hg (fun x hx e=>by cases hx;have:gj=g:=bW e;omega)) hgr (fun x hx e=>by cases hx;cases e;exact hoj rfl)
 ·rw[aY]at hj
  have hjm:j=m:=by omega
  subst hjm;refine⟨g',c',?_,?_⟩
  ·rw[aQ (by rw[h.len];omega),run_set hml,ay rfl,aG,hl];rfl
  ·rw[run_set hml,ay rfl,aG,<-oz]
   rw[hl]at ho;exact iF ho hgr (fun x hx e=>by cases hx;cases e;exact XU rfl)
 ·rw[aY]at h0;omega
theorem RW.new {W wr w2 w3:World}{v v':Value}{rs:List (List Nat)}{hs:List Value}{B b l c:Nat}{r:List Nat}(h:RW W wr v rs hs B)(hf:Fr [] wr w2)(hl:l=r.length)(hb:w2.ownsRow wr.heap.size 3 1 (.slice (some ⟨b,0,none⟩) l c) l (gz r))
 (ho:w3.ownsRow W.heap.size 22 1 v' (rs.length+1) (hs++[.slice (some ⟨b,0,none⟩) l c])) (hg:w2.grownBy w3 v.ownBlock):RW W w3 v' (rs++[r]) (hs++[.slice (some ⟨b,0,none⟩) l c]) wr.heap.size:=by
 have h1:=h.iS hf;refine⟨h1.fr.grown hg (fun k e=>(h1.own.lt k e).1),?_,⟨a_ h.b0.1 h.b0.2,?_⟩,fun j hj=>?_,fun j hj=>?_,fun h0=>?_⟩
 ·rw[aG];exact ho
 ·have:=hf.size;have:=hg.size;omega
 ·rw[aG]at hj
  simp only[bH]at hj;rw[uo _ _ _ (by omega),au (by omega),aJ (by rw[h.len];omega)]
  rcases bP (j+1) rs.length with hlt | hge
  ·obtain⟨gj,cj,a1,a2,a3⟩:=h1.old j hlt
   exact⟨gj,cj,a1,by have:=h.b0.2;omega,iF a3 hg (fun x hx e=>iT a3 h1.own (by decide) hx e.symm rfl)⟩
  ·obtain⟨gj,cj,a1,a2⟩:=h1.last j (by omega)
   obtain⟨gk,ck,b1,b2⟩:=h.last j (by omega);rw[a1]at b1;cases b1;exact⟨gj,cj,a1,(fZ b2).2,iF (gY a2 h.b0.1) hg (fun x hx e=>iT a2 h1.own (by decide) hx e.symm rfl)⟩
 ·rw[aG]at hj
  simp only[bH]at hj;have DI:j=rs.length:=by omega
  subst DI;rw[uo _ _ _ (by omega),ay rfl];subst hl;refine⟨b,c,by rw[<-h.len];simp,iF hb hg (fun x hx e=>iT hb h1.own (by decide) hx e.symm rfl)⟩
 ·simp at h0
def wY (w:World)(B:Nat)(v:Value)(rs:List (List Nat)):Prop :=
 (rs.length=0->v=.slice none 0 0)/\(0<rs.length->∃o cap,v=.slice (some ⟨o,0,none⟩) rs.length cap/\B<=o) /\
 ∀o cap,v=.slice (some ⟨o,0,none⟩) rs.length cap->∀j,j<rs.length->∃g c,w.cell? ⟨o,j,none⟩=some (.slice (some ⟨g,0,none⟩) (run rs j).length c)/\B<=g/\w.ownsRow B 3 1 (.slice (some ⟨g,0,none⟩) (run rs j).length c) (run rs j).length (gz (run rs j))
theorem RW.rows {W wr:World}{v:Value}{rs:List (List Nat)}{hs:List Value}{B:Nat}(h:RW W wr v rs hs B):wY wr W.heap.size v rs:=by
 refine⟨h.nl,fun hp=>?_,fun o cap hv j hj=>?_⟩
 ·obtain⟨o,cap,rfl⟩:=fR hp h.own
  exact⟨o,cap,rfl,(fZ h.own).1⟩
 ·subst hv
  have hc:=h.own.cellAt j (by omega)
  rcases bP (j+1) rs.length with hlt | hge
  ·obtain⟨g,c,a1,a2,a3⟩:=h.old j hlt
   exact⟨g,c,by rw[hc,a1],(fZ a3).1,a3⟩
  ·obtain⟨g,c,a1,a2⟩:=h.last j (by omega)
   have:=gY a2 h.b0.1;exact⟨g,c,by rw[hc,a1],(fZ this).1,this⟩
theorem EC (K L:List Int)(i:Nat)(rs:List (List Nat)) :
 (gone (nth K i)=true->mU K L i rs=rs) /\
 (gone (nth K i)=false->rs.length=0->mU K L i rs=rs++[[i]]) /\
 (∀m,gone (nth K i)=false->rs.length=m+1->nth L (gN (run rs m))=nth L i->mU K L i rs=rs.set m (run rs m++[i])) /\
 (∀m,gone (nth K i)=false->rs.length=m+1->¬nth L (gN (run rs m))=nth L i->mU K L i rs=rs++[[i]]):=by
 refine⟨fun h=>?_,fun h h0=>?_,fun m h h0 h1=>?_,fun m h h0 h1=>?_⟩
 ·rw[mU,ay h]
 ·have:rs=[]:=dX.1 h0
  subst this;rw[mU,au (by rw[h];exact aE),ay rfl];rfl
 ·have hne:rs≠[]:=by intro e;subst e;simp at h0
  rw[mU,au (by rw[h];exact aE),au hne,h0];simp only[bX];rw[ay h1]
 ·have hne:rs≠[]:=by intro e;subst e;simp at h0
  rw[mU,au (by rw[h];exact aE),au hne,h0];simp only[bX];rw[au h1]
theorem FD (v:Value)(h:v.oneCell'=true):∀u∈[v],u.oneCell'=true:=by
 intro u hu;rw[aj]at hu;subst hu;exact h
theorem oF (K L:List Int)(k:Nat):(ig K L k).length<=k/\∀r∈ig K L k,r.length<=k:=by
 have h:=oJ K L k;have hf:(ig K L k).flatten.length<=k:=by
  rw[h.flat,ng];exact a_ (List.length_filter_le _ _) (by simp)
 refine⟨?_,fun r hr=>?_⟩
 ·have:∀l:List (List Nat),(∀r∈l,r≠[])->l.length<=l.flatten.length:=by
   intro l
   induction l with
   | nil=>simp
   | cons a l ih =>
     intro hl;have h1:=ih (fun r hr=>hl r (cP _ hr));have h2:0<a.length:=bB.2 (hl a bA);rw[bO,List.flatten_cons,aG];omega
  have:=this _ h.ne;omega
 ·have:r.length<=(ig K L k).flatten.length:=(List.sublist_flatten_of_mem hr).length_le
  omega
theorem MN (q:PH)(C L:List Int)(w:World)(hK:q.K.length=q.n)(hn:q.n<=1000000)(G:List Bool)(hG:∀i,i<q.n->(G[i]?).getD false=gone (nth q.K i))(hs:PS w q C L G) :
 Calls prog 85 #[.pointer (some ⟨q.p,0,none⟩)] w fun e w'=>∃v,e=.returned v/\wY w' w.heap.size v (ig q.K L q.K.length)/\Fr [] w w':=by
 obtain⟨i0,hi,hz0,hz1,hz2⟩:=e_ info3;obtain⟨i1,hi1,hy0,hy1,hy2⟩:=e_ O7;have hlp:=hs.lt;have HS:=hid hs;have HG:=hid hG;have HK:=hid hK;obtain⟨Z,hZ⟩:∃Z,Z=ig q.K L q.K.length:=⟨_,rfl⟩;rw[<-hZ];have HZ:=hid hZ;clear hs hG hK hZ;go_enter func85,ntmps85;go_wp2;go_loopw [3,4] (fun v ii wr=>∃(i B:Nat) (hs:List Value),ii=.int .i64 i/\i<=q.n/\Hid (RW w wr v (ig q.K L i) hs B)) (fun _ ii _=>q.n - (intOf ii).toNat)
 case atStart=>exact⟨0,_,_,rfl,aH _,hid (RW.start w)⟩
 case round =>
  obtain⟨i,B,hs,rfl,hin,HR⟩:=hrel;have HP:=hid (HS.out.iS HR.out.fr);have d2:=HP.out.c2;by_cases hlt:i<q.n
  ·have d5:=HP.out.c5
   have e5:=HP.out.rG i hlt;rw[HG.out i hlt]at e5;have oC:=hid (EC q.K L i (ig q.K L i));have mN:=hid (show ig q.K L (i+1)=mU q.K L i (ig q.K L i)from rfl);rw[<-mN.out]at oC;have oh:=hid (oJ q.K L i);have hshort:=oF q.K L i;have Te:=hid hshort.2;have hsh:=hshort.1;clear hshort;generalize ig q.K L i=rs at *;cases hg:gone (nth q.K i)
   ·rw[hg]at e5
    obtain⟨a1,c1,hv1⟩:=gA HR.out.own;obtain⟨n,hn'⟩:∃n,n=rs.length:=⟨_,rfl⟩;rw[<-hn']at hv1 hsh;have HN:=hid hn';subst hv1;clear hn'
    rcases aS n with h0 | h0
    ·subst h0
     have hnil:=HR.out.nl HN.out.symm;cases hnil;have iA:=hid (oC.out.2.1 hg HN.out.symm);clear oC hg;go_wp2_with (at_builtin;refine eV _ rfl _ _ 98 rfl w.heap.size 22 i1 _ 1 24 underlying98 hi1 hy0 hy1 hy2 rfl (by decide) _ 0 hs rfl ?own _ 1 1 [.slice (some ⟨wr.heap.size,0,none⟩) 1 1] rfl rfl (iC _ _ _ _ (by simp)) (FD _ rfl) (by unfold maxLen;omega) (by omega) ?nY ?_)
     case own=>exact fS (by have:=HR.out.own;rw[<-HN.out]at this;exact this) (((Fr.refl [] wr).alloc _).alloc _)
     case nY=>have:=HR.out.fr.size;simp;omega
     intro v' w3 gM hgrow hnil;have HR3:=hid (HR.out.new (r:=[i]) (((Fr.refl [] wr).alloc _).alloc _) rfl ((fE (base:=wr.heap.size) (e:=3) (size:=1) wr #[.int .i64 i] 1 (ak _) (by decide) rfl).alloc _) (by rw[<-HN.out];exact gM) hgrow);clear gM hgrow hnil;go_wp2;go_roundw
     case rel=>exact⟨i+1,_,_,by go_num,by omega,hid (by rw[iA.out];exact HR3.out)⟩
     case measure=>simp[intOf];omega
    ·obtain⟨m,hm⟩:∃m,n=m+1:=⟨n - 1,by omega⟩
     have hown:=HR.out.own;rw[<-HN.out]at hown;obtain⟨o,cap,FE⟩:=fR h0 hown;cases FE;obtain⟨g,c,hh,KW⟩:=HR.out.last m (by rw[<-HN.out,hm]);have e1:wr.cell? ⟨o,m,none⟩=some (.slice (some ⟨g,0,none⟩) (run rs m).length c):=by rw[hown.cellAt m (by omega),hh]
     have hrm:run rs m∈rs:=kU (by rw[<-HN.out];omega);have hne:=oh.out.ne _ hrm;have hl0:0<(run rs m).length:=bB.2 hne;have hlm:=jI hne;have hlq:gN (run rs m)<q.n:=by
      have h2:gN (run rs m)∈rs.flatten:=eJ.2 ⟨_,hrm,hlm⟩;rw[oh.out.flat]at h2;have:=(zS _ _ _ h2).1;omega
     have hrl:=Te.out _ hrm;obtain⟨l,hl⟩:∃l,l=(run rs m).length:=⟨_,rfl⟩;obtain⟨l',hl'⟩:∃l',l=l'+1:=⟨l - 1,by omega⟩;rw[<-hl]at e1 KW hh hrl;have e2:wr.cell? ⟨g,l',none⟩=some (.int .i64 (gN (run rs m):Nat)):=by
      rw[jJ KW hl.symm l' (by omega),gN,<-hl,hl'];rfl
     have e3:=HP.out.rL _ hlq;have e4:=HP.out.rL i hlt;have d3:=HP.out.c3;have iO:=hid (oC.out.2.2.1 m hg (by rw[<-HN.out,hm]));have gP:=hid (oC.out.2.2.2 m hg (by rw[<-HN.out,hm]));have HOW:=hid hown;have Cz:=hid KW;have HL:=hid hl;have QC:=hid hm;have hnm:(n:Int) - 1=(m:Int):=by omega
     have hmn:(m:Int)<(n:Int):=by omega
     have hlI:(l:Int) - 1=(l':Int):=by omega
     have akb:(l':Int)<(l:Int):=by omega
     have hnI:(0:Int)<(n:Int):=by omega
     clear hown KW hg oC hm hl hl' hh hl0 hrm hne hlm;generalize run rs m=r at *;generalize gN r=lr at *;by_cases heq:nth L lr=nth L i
     ·have iA:=hid (iO.out heq)
      rw[heq]at e3;generalize nth L i=y at *;clear iO gP heq;go_wp2;go_quiet (fail);go_wp2_with (at_builtin;refine eV _ rfl _ _ 22 rfl B 3 i0 _ 1 8 underlying22 hi hz0 hz1 hz2 rfl (by decide) _ l (gz r) rfl ?own _ 1 1 [.int .i64 i] rfl rfl (iC _ _ _ _ (by simp)) (one_cell _) (by unfold maxLen;omega) (by omega) ?nY ?_)
      case own=>exact fS Cz.out (((Fr.refl [] wr).drewN _).alloc _)
      case nY=>have:=HR.out.b0.2;simp;omega
      intro v' w3 gM hgrow hnil;obtain⟨g',c',hv'⟩:=fR (by omega) gM;subst hv';have hap:o≠g:=iT HOW.out Cz.out (by decide) rfl rfl;have UG:=hid (iF (fS HOW.out (((Fr.refl [] wr).drewN _).alloc _)) hgrow (fun x hx e=>hap (by cases hx;cases e;rfl)));have f1:∃u,w3.cell? ⟨o,m,none⟩=some u:=by rw[UG.out.cellAt m (by have:=QC.out;omega),az (by rw[HR.out.len,<-HN.out];have:=QC.out;omega)];exact⟨_,rfl⟩
      obtain⟨u,f1⟩:=f1;have f2:=UG.out.frozenAt m;have HR3:=hid (HR.out.grow HN.out QC.out Cz.out HL.out (((Fr.refl [] wr).drewN _).alloc _) gM hgrow);clear gM hgrow hnil e1 e2 e3 e4 d2 d3 d5;go_wp2;go_roundw
      case rel=>exact⟨i+1,_,_,by go_num,by omega,hid (by rw[iA.out];exact HR3.out)⟩
      case measure=>simp[intOf];omega
     ·have iA:=hid (gP.out heq)
      generalize nth L i=y at *;generalize nth L lr=y' at *;clear iO gP;go_wp2;go_quiet (fail);go_wp2_with (at_builtin;refine eV _ rfl _ _ 98 rfl w.heap.size 22 i1 _ 1 24 underlying98 hi1 hy0 hy1 hy2 rfl (by decide) _ n hs rfl ?own _ 1 1 [.slice (some ⟨wr.heap.size,0,none⟩) 1 1] rfl rfl (iC _ _ _ _ (by simp)) (FD _ rfl) (by unfold maxLen;omega) (by omega) ?nY ?_)
      case own=>exact fS HOW.out ((((Fr.refl [] wr).drewN _).alloc _).alloc _)
      case nY=>have:=HR.out.fr.size;simp;omega
      intro v' w3 gM hgrow hnil;have HR3:=hid (HR.out.new (r:=[i]) ((((Fr.refl [] wr).drewN _).alloc _).alloc _) rfl ((fE (base:=wr.heap.size) (e:=3) (size:=1) (wr.drewN _) #[.int .i64 i] 1 (ak _) (by decide) rfl).alloc _) (by rw[<-HN.out];exact gM) hgrow);clear gM hgrow hnil;go_wp2;go_roundw
      case rel=>exact⟨i+1,_,_,by go_num,by omega,hid (by rw[iA.out];exact HR3.out)⟩
      case measure=>simp[intOf];omega
   ·rw[hg]at e5
    have iA:=hid (oC.out.1 hg);clear oC hg;go_wp2;go_roundw
    case rel=>exact⟨i+1,_,_,by go_num,by omega,hid (by rw[iA.out];exact HR.out)⟩
    case measure=>simp[intOf];omega
  ·have hie:i=q.n:=by omega
   have zq:=hid (show RW w wr _ Z hs B by rw[HZ.out,HK.out,<-hie];exact HR.out);clear hie HR;go_wp2;go_ret;exact⟨_,rfl,zq.out.rows,zq.out.fr⟩
theorem QD (o:Option Nat)(x:Nat):(pZ o == (x:Int))=(o == some x):=by
 cases o with
 | none=>simp[pZ]
 | some m =>
   by_cases h:m=x
   ·subst h;simp[pZ]
   ·have h1:((m:Int) == (x:Int))=false:=by simp;omega
    have h2:(some m == some x)=false:=by simp[h]
    rw[pZ,h1,h2]
def KX (q:PH):Prop:=∀i,i<q.n->j6 (nth q.K i)=true->nth q.M i=pZ (kP q.K i)
theorem ED (q:PH)(C L:List Int)(G:List Bool)(ba ca bb cb:Nat)(ra rb:List Nat)(w:World)(hs:PS w q C L G)(ha:BH w ba ra.length ra)(hb:BH w bb rb.length rb)
 (ha0:0<ra.length) (hb0:0<rb.length) (hal:ra.length<=1000000) (hlt:gN ra<q.n) (hM:KX q) :
 Calls prog 86 #[.pointer (some ⟨q.p,0,none⟩),.slice (some ⟨ba,0,none⟩) ra.length ca,.slice (some ⟨bb,0,none⟩) rb.length cb] w fun e w'=>e=.returned (.bool (follows q.K ra rb))/\∃m,w'=w.drewN m:=by
 have c1:=hs.c1;have c4:=hs.c4;have e1:w.cell? ⟨ba,ra.length - 1,none⟩=some (.int .i64 (gN ra:Nat)):=ha _ (by omega);have e2:w.cell? ⟨bb,0,none⟩=some (.int .i64 (gq rb:Nat)):=hb 0 hb0;have e3:=hs.rF _ hlt;have e4:=hs.rM _ hlt;have HM:=hM _ hlt;obtain⟨R,hR⟩:∃R,R=follows q.K ra rb:=⟨_,rfl⟩;rw[<-hR];unfold follows at hR;generalize gN ra=i at *;generalize gq rb=j at *;generalize nth q.K i=y at *;generalize nth q.M i=z at *;generalize kP q.K i=M at *;have hsub:(((ra.length:Nat):Int) - 1).toNat=ra.length - 1:=by omega
 generalize ra.length=la at *;generalize rb.length=lb at *;clear hs ha hb hM;cases hy:j6 y
 ·rw[hy]at hR
  have HR:=hid hR;clear hR HM;obtain⟨d,rfl⟩:∃d,la=d+1:=⟨la - 1,by omega⟩;simp only[bX]at e1;go_enter func86,ntmps86;go_wp2_with (go_at_call 41;refine(gG _ _).mono ?_;rintro e w' ⟨rfl,rfl⟩);go_quiet (fail);go_wp2;go_ret;exact⟨nF (by rw[HR.out];rfl),_,rfl⟩
 ·have hz:=HM hy
  rw[hy,<-QD,<-hz]at hR;have HR:=hid hR;clear hR HM hz;obtain⟨d,rfl⟩:∃d,la=d+1:=⟨la - 1,by omega⟩;simp only[bX]at e1;go_enter func86,ntmps86;go_wp2_with (go_at_call 41;refine(gG _ _).mono ?_;rintro e w' ⟨rfl,rfl⟩);go_quiet (fail);go_wp2;go_ret;exact⟨nF (by rw[HR.out];rfl),_,rfl⟩
theorem DN (K L:List Int)(base:Int)(f j:Nat)(h:¬j<K.length):kr K L base f j=base:=by
 cases f with
 | zero=>rfl
 | succ f=>rw[kr,au h]
theorem DQ (K L:List Int)(base:Int)(f j:Nat)(hf:K.length<=j+f)(h:j<K.length)(hg:gone (nth K j)=true):∃f',K.length<=j+1+f'/\kr K L base f j=kr K L base f' (j+1):=by
 cases f with
 | zero=>omega
 | succ f=>exact⟨f,by omega,by rw[kr,ay h,ay hg]⟩
theorem CA (K L:List Int)(base:Int)(f j:Nat)(hf:K.length<=j+f)(h:j<K.length)(hg:gone (nth K j)=false):kr K L base f j=nth L j:=by
 cases f with
 | zero=>omega
 | succ f=>rw[kr,ay h,au (by rw[hg];exact aE)]
theorem nlp {w:World}{n:Nat}{c:Array Value}{t:TypeId}(h:w.heap[n]?=some (.cells c t (0,0)))(i:Nat)(v:Value)(hv:c[i]?=some v):w.cell? ⟨n,i,none⟩=some v/\w.frozen? ⟨n,i,none⟩=false:=by
 simp[World.cell?,World.frozen?,h,hv]
theorem EE (w:World)(b:Nat)(t:TypeId)(a0 a1 a2 a3 x0 x1 x2 x3:Value)(hh:w.heap[b]?=some (.cells #[a0,a1,a2,a3] t (0,0))) :
 ((((w.setCell ⟨b,0,none⟩ x0).setCell ⟨b,1,none⟩ x1).setCell ⟨b,2,none⟩ x2).setCell ⟨b,3,none⟩ x3).heap[b]?=some (.cells #[x0,x1,x2,x3] t (0,0)):=by
 rw[fA _ b 3 _ t x3 (fA _ b 2 _ t x2 (fA _ b 1 _ t x1 (fA _ b 0 _ t x0 hh)))];rfl
theorem KY {S:List Nat}{w w':World}(h:Fr S w w')(x0 x1 x2 x3:Value):Fr S w ((((w'.setCell ⟨w.heap.size,0,none⟩ x0).setCell ⟨w.heap.size,1,none⟩ x1).setCell ⟨w.heap.size,2,none⟩ x2).setCell ⟨w.heap.size,3,none⟩ x3):=by
 refine((((((h.mono (T:=w.heap.size :: S) (fun k hk _=>cP _ hk)).set bA x0).set bA x1).set bA x2).set bA x3).mono ?_);intro k hk hl
 rcases bK.1 hk with h1 | h1
 ·omega
 ·exact h1
theorem mI (q:PH)(C L:List Int)(G:List Bool)(bI cI:Nat)(I:List Nat)(w:World)(hs:PS w q C L G)(hI:IS w q bI I)(hI0:0<I.length)(hn:q.n<=1000000)(hK:q.K.length=q.n)
 (hG:∀i,i<q.n->G[i]?.getD false=gone (nth q.K i)) (hL:∀i,0<=nth L i) (hB:0<=q.base) :
 Calls prog 46 #[.pointer (some ⟨q.p,0,none⟩),.slice (some ⟨bI,0,none⟩) I.length cI] w fun e w'=>e=.returned (Ee bI cI (lV q.K L q.base I))/\Fr [] w w':=by
 have c1:=hs.c1;have c2:=hs.c2;have c3:=hs.c3;have c5:=hs.c5;have c6:=hs.c6;have lp:=hs.lt;have sm:=hI.sm;have e1:w.cell? ⟨bI,0,none⟩=some (.int .i64 (gq I:Nat)):=hI.r 0 hI0;have e2:w.cell? ⟨bI,I.length - 1,none⟩=some (.int .i64 (gN I:Nat)):=hI.r _ (by omega);have h1:gq I<q.n:=hI.lt 0 hI0;have h2:gN I<q.n:=hI.lt _ (by omega);have e3:=hs.rL _ h1;have e4:=hs.rF _ h2;have lI:=eS _ _ e1;have lL:=hs.ltL (by omega);have lF:=hs.ltF (by omega);have HS:=hid hs;have HG:=hid hG;have HL:=hid hL;have HK:=hid hK;obtain⟨A,hA⟩:∃A,A=nH q.K L q.base (gq I):=⟨_,rfl⟩;obtain⟨Bh,hBh⟩:∃B,B=kr q.K L q.base q.K.length (gN I+1):=⟨_,rfl⟩;have ZI:=hid (show lV q.K L q.base I=⟨I,way (nth L (gq I)),way (max (nth L (gq I)) A),way (max (nth L (gq I)) (if j6 (nth q.K (gN I))then q.base else Bh))⟩ by rw[hA,hBh];rfl);have hl0:=hL (gq I);have HA:=hid hA;have HBh:=hid hBh;obtain⟨S,hS⟩:∃S,S=Ee bI cI (lV q.K L q.base I):=⟨_,rfl⟩;rw[<-hS];rw[ZI.out]at hS;dsimp only[Ee]at hS;have zm:=hid hS;clear hA hBh hS hs hI hG hL hK ZI;generalize gq I=fi at *;generalize gN I=la at *;generalize nth L fi=l at *;generalize nth q.K la=kl at *;obtain⟨d,hd⟩:∃d,I.length=d+1:=⟨I.length - 1,by omega⟩;rw[hd]at e2 sm zm ⊢;simp only[bX]at e2;clear hI0 hd;go_enter func46,ntmps46;go_wp2;go_quiet (fail);go_wp2;go_loopw [6] (fun a wr=>∃(t:Nat),a=.int .i64 ((t:Int) - 1)/\t<=fi/\Hid (A=nH q.K L q.base t)/\Hid (PS wr q C L G)/\Hid (Fr [] w wr)/\Hid (wr.heap[w.heap.size]?=some (.cells #[.slice none 0 0,.int .i64 0,.int .i64 0,.int .i64 0] 101 (0,0)))) (fun a _=>(intOf a+1).toNat)
 case atStart =>
  refine⟨fi,by go_num,ak _,HA,hid (HS.out.iS (((Fr.refl _ w).alloc _).drewN _)),hid (((Fr.refl _ w).alloc _).drewN _),hid ?_⟩;exact fH _ _
 case round =>
  obtain⟨t,rfl,ht,HA2,HP,HF,HX⟩:=hrel;have d5:=HP.out.c5;have d6:=HP.out.c6;have d3:=HP.out.c3;have d2:=HP.out.c2;have d1:=HP.out.c1;have lp2:=HP.out.lt;have k1:wr.cell? ⟨bI,0,none⟩=some (.int .i64 fi):=HF.out.cell e1 (by simp);have k2:wr.cell? ⟨bI,d,none⟩=some (.int .i64 la):=HF.out.cell e2 (by simp);have k3:wr.cell? ⟨q.bL,fi,none⟩=some (.int .i64 l):=HF.out.cell e3 (by simp);have k4:wr.cell? ⟨q.bF,la,none⟩=some (.int .i64 kl):=HF.out.cell e4 (by simp);have hex:(∃t',t=t'+1/\gone (nth q.K t')=true)\/(t=0/\A=q.base)\/(∃t',t=t'+1/\t'<q.n/\gone (nth q.K t')=false/\A=nth L t'):=by
   cases t with
   | zero=>exact .inr (.inl ⟨rfl,HA2.out⟩)
   | succ t =>
     cases hg:gone (nth q.K t)
     ·refine .inr (.inr ⟨t,rfl,by omega,hg,?_⟩)
      have:=HA2.out;rw[nH,hg]at this;simpa using this
     ·exact .inl ⟨t,rfl,hg⟩
  obtain⟨t',rfl,hg⟩ | ⟨rfl,hAb⟩ | ⟨t',rfl,htn,hg,hAl⟩:=hex
  ·have htn:t'<q.n:=by omega
   have k5:=HP.out.rG t' htn;rw[HG.out t' htn,hg]at k5;have hc:((t'+1:Nat):Int) - 1=(t':Int):=by omega
   have ZJ:=hid (show A=nH q.K L q.base t' by have:=HA2.out;rw[nH,hg]at this;simpa using this);rw[hc];clear hg HA2;go_wp2;go_roundw
   case rel=>exact⟨t',by go_num,by omega,ZJ,HP,HF,HX⟩
   case measure=>simp[intOf]
  case' inr.inl =>
   have HAX:=hid hAb;have m1:0<=max l q.base:=by omega
   clear HA2 HA hAb
  case' inr.inr =>
   have k5:=HP.out.rG t' htn;rw[HG.out t' htn,hg]at k5;have hc:((t'+1:Nat):Int) - 1=(t':Int):=by omega
   rw[hc];have k6:=HP.out.rL t' htn;have XV:0<=nth L t':=HL.out t';have HAX:=hid hAl;clear hAl;generalize nth L t'=A' at *;have m1:0<=max l A':=by omega
   clear HA2 HA hg hc
  all_goals (
   go_wp2
   go_loopw [9] (fun a wr=>∃(j f:Nat),a=.int .i64 (j:Int)/\j<=q.n/\Hid (q.n<=j+f)/\Hid (Bh=kr q.K L q.base f j)/\Hid (PS wr q C L G)/\Hid (Fr [] w wr)/\Hid (wr.heap[w.heap.size]?=some (.cells #[.slice none 0 0,.int .i64 0,.int .i64 0,.int .i64 0] 101 (0,0)))) (fun a _=>q.n - (intOf a).toNat)
   case atStart=>exact⟨la+1,q.n,by go_num,by omega,hid (by omega),hid (by rw[HBh.out,HK.out]),HP,HF,HX⟩
   case round =>
    obtain⟨j,f,rfl,hj,HJF,HB2,UI,Mp,XW⟩:=hrel
    have d5':=UI.out.c5
    have d6':=UI.out.c6
    have d3':=UI.out.c3
    have d2':=UI.out.c2
    have d1':=UI.out.c1
    have lp':=UI.out.lt
    have k1':wr.cell? ⟨bI,0,none⟩=some (.int .i64 fi):=Mp.out.cell e1 (by simp)
    have k4':wr.cell? ⟨q.bF,la,none⟩=some (.int .i64 kl):=Mp.out.cell e4 (by simp)
    obtain⟨x0,y0⟩:=nlp XW.out 0 _ rfl
    obtain⟨x1,y1⟩:=nlp XW.out 1 _ rfl
    obtain⟨x2,y2⟩:=nlp XW.out 2 _ rfl
    obtain⟨x3,y3⟩:=nlp XW.out 3 _ rfl
    by_cases hjn:j<q.n
    ·have k5':=UI.out.rG j hjn
     rw[HG.out j hjn]at k5'
     cases hg:gone (nth q.K j)
     ·have HB3:=hid (HB2.out.trans (CA q.K L q.base f j (by rw[HK.out];exact HJF.out) (by rw[HK.out];exact hjn) hg))
      rw[hg]at k5'
      clear hg HB2
      have k6':=UI.out.rL j hjn
      have hB0:=HL.out j
      generalize nth L j=lj at *
      have m2:0<=max l lj:=by omega
      have m3:0<=max l q.base:=by omega
      cases hk:j6 kl
      all_goals (
       rw[hk]at zm
       go_wp2_with (first
        | (go_at_call 41;refine(gG _ _).mono ?_;rintro e w' ⟨rfl,rfl⟩)
        | (go_at_call 87;refine(yS _ _ _).mono ?_;rintro e w' ⟨rfl,rfl⟩)
        | (go_at_call 88;refine(D9 _ _ (by assumption)).mono ?_;rintro e w' ⟨rfl,rfl⟩))
       (try simp only[Exit.inBlock,Exit.then])
       refine eU (eW (t:=101) (fr:=(0,0)) rfl _ _ w.heap.size _ _ rfl (EE _ _ _ _ _ _ _ _ _ _ _ XW.out) underlying101 rfl (by kernel_rfl)) rfl ?_
       exact⟨by rw[zm.out,HAX.out,HB3.out] <;> simp,KY Mp.out _ _ _ _⟩)
     ·obtain⟨f',hf',hb'⟩:=DQ q.K L q.base f j (by rw[HK.out];exact HJF.out) (by rw[HK.out];exact hjn) hg
      rw[hg]at k5'
      have HB3:=hid (HB2.out.trans hb')
      rw[HK.out]at hf'
      clear hg HB2 hb' x0 x1 x2 x3 y0 y1 y2 y3
      go_wp2
      go_roundw
      case rel=>exact⟨j+1,f',by go_num,by omega,hid (by omega),HB3,UI,Mp,XW⟩
      case measure=>simp[intOf];omega
    ·have HB3:=hid (HB2.out.trans (DN q.K L q.base f j (by rw[HK.out];exact hjn)))
     clear HB2
     have m3:0<=max l q.base:=by omega
     go_wp2_with (first
      | (go_at_call 41;refine(gG _ _).mono ?_;rintro e w' ⟨rfl,rfl⟩)
      | (go_at_call 87;refine(yS _ _ _).mono ?_;rintro e w' ⟨rfl,rfl⟩)
      | (go_at_call 88;refine(D9 _ _ (by assumption)).mono ?_;rintro e w' ⟨rfl,rfl⟩))
     (try simp only[Exit.inBlock,Exit.then])
     refine eU (eW (t:=101) (fr:=(0,0)) rfl _ _ w.heap.size _ _ rfl (EE _ _ _ _ _ _ _ _ _ _ _ XW.out) underlying101 rfl (by kernel_rfl)) rfl ?_
     exact⟨by rw[zm.out,HAX.out,HB3.out] <;> simp,KY Mp.out _ _ _ _⟩)
end Go.Proofs.YtnakejhohdbfdaaGreatDoor

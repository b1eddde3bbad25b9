import Derived.Test.YtnakejhohdbfdacGreatDoorKMd
import Derived.Test.YtnakejhohdbfdacGreatDoorKRefBnd
import Derived.Shelf.Utf8.RuneCount
import Derived.Shelf.Unicode.DecodeSlow
import Derived.Shelf.Slices.Turned
import Derived.Shelf.Slices.Reverse
import Derived.Ground.Names2Prog
import Derived.Shelf.Slices.Clone
import Derived.Shelf.Slices.SearchI
import Derived.Shelf.Slices.Cells
import Derived.Shelf.Slices.Empties
import Derived.Ground.SlgnProg
import Derived.Shelf.SlicesE.Clone
import Derived.Ground.SlgmProg
import Derived.Test.YtnakejhohdbfdacGreatDoorProg
namespace Go.Proofs.YtnakejhohdbfdacGreatDoor
open Go.RowKit Lev Lay Bnd
def slAt (w:World)(v:Value)(l:List Int):Prop:=∃a c,v=.slice a l.length c∧(l.length=0∨∃g o,a=some ⟨g,o,none⟩∧rowO w g o l.length l)
theorem slAt.fr {w w':World}{v:Value}{l:List Int}(h:slAt w v l)(hf:Fr [] w w'):slAt w' v l:=by
 obtain⟨a,c,h1,h2⟩:=h;refine⟨a,c,h1,h2.imp id ?_⟩;rintro ⟨g,o,h3,h4⟩;exact⟨g,o,h3,h4.fr hf List.not_mem_nil⟩
def clsOf (s:ByteArray)(n:Nat):List Int:=(List.range n).map (fun i=>Tabs.look Tabs.classTab (Dec.rune s i))
theorem clsOf_at (s:ByteArray){n i:Nat}(h:i<n):nth (clsOf s n) i=Tabs.look Tabs.classTab (Dec.rune s i):=by simp[nth,clsOf,h]
end Go.Proofs.YtnakejhohdbfdacGreatDoor
namespace Go.Proofs
open Go.Shelf Go.RowKit
def Tryz.lays195_ren:Go.Shelf.Ren:=⟨fun | 195=>34 | n=>n,fun | 9=>9 | 3=>3 | 0=>0 | 4=>4 | n=>n,fun | n=>n⟩
theorem Tryz.lays195:Go.Proofs.Lays.n195 Tryz.prog Tryz.lays195_ren:={
 mixed:=by kernel_rfl
 f195:=Tryz.func34.trans (congrArg some (by kernel_rfl))
 t0:=Tryz.underlying0
 a0:=Tryz.isAgg0
 z0:=Tryz.sizeOf0
 v0:=Tryz.zeroValue0
 t3:=Tryz.underlying3
 a3:=Tryz.isAgg3
 z3:=Tryz.sizeOf3
 v3:=Tryz.zeroValue3
 t4:=Tryz.underlying4
 a4:=Tryz.isAgg4
 z4:=Tryz.sizeOf4
 v4:=Tryz.zeroValue4
 t9:=Tryz.underlying9
 a9:=Tryz.isAgg9
 z9:=Tryz.sizeOf9
 v9:=Tryz.zeroValue9 }
theorem Tryz.utf8_RuneCountInString (s:ByteArray)(w:World)(hs:s.size<9223372036854775807) :
 Calls Tryz.prog 34 #[.string s] w fun e w'=>e=.returned (.int .i64 (Lib.runeCount s))∧∃pos,w'=w.iter s pos:=Any.utf8_RuneCountInString Tryz.lays195 s w hs
def Tryz.lays112_ren:Go.Shelf.Ren:=⟨fun | 112=>221 | n=>n,fun | 28=>32 | 3=>3 | 4=>4 | 0=>0 | n=>n,fun | n=>n⟩
theorem Tryz.lays112:Go.Proofs.Lays.n112 Tryz.prog Tryz.lays112_ren:={
 mixed:=by kernel_rfl
 f112:=Tryz.func221.trans (congrArg some (by kernel_rfl))
 t0:=Tryz.underlying0
 a0:=Tryz.isAgg0
 z0:=Tryz.sizeOf0
 v0:=Tryz.zeroValue0
 t3:=Tryz.underlying3
 a3:=Tryz.isAgg3
 z3:=Tryz.sizeOf3
 v3:=Tryz.zeroValue3
 t4:=Tryz.underlying4
 a4:=Tryz.isAgg4
 z4:=Tryz.sizeOf4
 v4:=Tryz.zeroValue4
 t28:=Tryz.underlying32
 a28:=Tryz.isAgg32
 z28:=Tryz.sizeOf32
 v28:=Tryz.zeroValue32 }
def Tryz.laysNm225_ren:Go.Shelf.Ren:=⟨fun | 25=>78 | 31=>117 | 32=>118 | 37=>150 | n=>n,fun | 22=>32 | 3=>3 | 4=>4 | 40=>224 | 0=>0 | n=>n,fun | n=>n⟩
theorem Tryz.laysNm225:Go.Proofs.Lays2.n25 Tryz.prog Tryz.laysNm225_ren:={
 mixed:=by kernel_rfl
 f25:=Tryz.func78.trans (congrArg some (by kernel_rfl))
 f31:=Tryz.func117.trans (congrArg some (by kernel_rfl))
 f32:=Tryz.func118.trans (congrArg some (by kernel_rfl))
 f37:=Tryz.func150.trans (congrArg some (by kernel_rfl))
 t0:=Tryz.underlying0
 a0:=Tryz.isAgg0
 z0:=Tryz.sizeOf0
 v0:=Tryz.zeroValue0
 t3:=Tryz.underlying3
 a3:=Tryz.isAgg3
 z3:=Tryz.sizeOf3
 v3:=Tryz.zeroValue3
 t4:=Tryz.underlying4
 a4:=Tryz.isAgg4
 z4:=Tryz.sizeOf4
 v4:=Tryz.zeroValue4
 t22:=Tryz.underlying32
 a22:=Tryz.isAgg32
 z22:=Tryz.sizeOf32
 v22:=Tryz.zeroValue32
 t40:=Tryz.underlying224
 a40:=Tryz.isAgg224
 z40:=Tryz.sizeOf224
 v40:=Tryz.zeroValue224 }
theorem Tryz.slices_BinarySearch_int (b off n c:Nat)(zs:List Int)(x:Int)(w:World)(hz:n≤zs.length)(hbig:n<4611686018427387904)(hc:∀j,j<zs.length→w.cell? ⟨b,off+j,none⟩=some (.int .i64 (zs.getD j 0)))(hs:(zs.take n).Pairwise (·≤·)) :
 Calls Tryz.prog 78 #[.slice (some ⟨b,off,none⟩) n c,.int .i64 x] w fun e w'=>e=.returned (.tuple #[.int .i64 ((zs.take n).countP (·<x):Nat),.bool ((zs.take n).contains x)])∧∃q,w'=w.drewN q:=Any.slices_BinarySearch_int Tryz.laysNm225 b off n c zs x w hz hbig hc hs
theorem Tryz.slices_Reverse_int_cells (b off n c:Nat)(zs:List Int)(w:World)(hz:n≤zs.length)(hbig:n≤9223372036854775807)(hc:∀j,j<zs.length→w.cell? ⟨b,off+j,none⟩=some (.int .i64 (zs.getD j 0)))(hf:∀j,j<n→w.frozen? ⟨b,off+j,none⟩=false) :
 Calls Tryz.prog 221 #[.slice (some ⟨b,off,none⟩) n c] w fun e w'=>e=.returned (.tuple #[])∧∃q,w'=(w.drewN q).setCells b off ((zs.take n).reverse.map (Value.int .i64)):=Any.slices_Reverse_int_cells Tryz.lays112 b off n c zs w hz hbig hc hf
def Tryz.laysSlE041_f91_ren:Go.Shelf.Ren:=⟨fun | 41=>54 | n=>n,fun | 22=>32 | 23=>3 | 4=>4 | n=>n,fun | n=>n⟩
theorem Tryz.laysSlE041_f91:Go.Proofs.SlLaysE0.n41 Tryz.prog Tryz.laysSlE041_f91_ren:={
 mixed:=by kernel_rfl
 f41:=⟨Tryz.f54.name,by decide,Tryz.func54.trans (congrArg some (by kernel_rfl))⟩
 t4:=Tryz.underlying4
 a4:=Tryz.isAgg4
 z4:=Tryz.sizeOf4
 v4:=Tryz.zeroValue4
 t22:=Tryz.underlying32
 a22:=Tryz.isAgg32
 z22:=Tryz.sizeOf32
 v22:=Tryz.zeroValue32 }
theorem Tryz.slices_Clone_f91 (i0:TypeInfo)(z:Value)(size bytes:Nat)(hi:Tryz.prog.info? 3=some i0)(hz0:i0.zero=some z)(hz1:i0.size=size)(hz2:i0.bytes=bytes)(hzs:z.cells.size=size)(hsz:0<size)(z23:∀w,(Go.sizeOf 3).run Tryz.prog w=.ok size w)(b off n c:Nat)(news:List Value)(w:World)(hl:news.length=n * size)(hn:n≤maxLen)(hbig:n * bytes≤140737488355328)(hc:∀j u,news[j]?=some u→w.cell? ⟨b,off+j,none⟩=some u)(h1:∀u∈news,u.oneCell'=true) :
 Calls Tryz.prog 54 #[.slice (some ⟨b,off,none⟩) n c] w fun e w'=>∃v',e=.returned v'∧w'.ownsRow w.heap.size 3 size v' n news∧v'≠.slice none 0 0∧Below w.heap.size w w':=AnyE.slices_Clone Tryz.laysSlE041_f91 i0 z size bytes hi hz0 hz1 hz2 hzs hsz z23 b off n c news w hl hn hbig hc h1
def Tryz.laysSlE041_f92_ren:Go.Shelf.Ren:=⟨fun | 41=>68 | n=>n,fun | 22=>67 | 23=>2 | 4=>4 | n=>n,fun | n=>n⟩
theorem Tryz.laysSlE041_f92:Go.Proofs.SlLaysE0.n41 Tryz.prog Tryz.laysSlE041_f92_ren:={
 mixed:=by kernel_rfl
 f41:=⟨Tryz.f68.name,by decide,Tryz.func68.trans (congrArg some (by kernel_rfl))⟩
 t4:=Tryz.underlying4
 a4:=Tryz.isAgg4
 z4:=Tryz.sizeOf4
 v4:=Tryz.zeroValue4
 t22:=Tryz.underlying67
 a22:=Tryz.isAgg67
 z22:=Tryz.sizeOf67
 v22:=Tryz.zeroValue67 }
theorem Tryz.slices_Clone_f92 (i0:TypeInfo)(z:Value)(size bytes:Nat)(hi:Tryz.prog.info? 2=some i0)(hz0:i0.zero=some z)(hz1:i0.size=size)(hz2:i0.bytes=bytes)(hzs:z.cells.size=size)(hsz:0<size)(z23:∀w,(Go.sizeOf 2).run Tryz.prog w=.ok size w)(b off n c:Nat)(news:List Value)(w:World)(hl:news.length=n * size)(hn:n≤maxLen)(hbig:n * bytes≤140737488355328)(hc:∀j u,news[j]?=some u→w.cell? ⟨b,off+j,none⟩=some u)(h1:∀u∈news,u.oneCell'=true) :
 Calls Tryz.prog 68 #[.slice (some ⟨b,off,none⟩) n c] w fun e w'=>∃v',e=.returned v'∧w'.ownsRow w.heap.size 2 size v' n news∧v'≠.slice none 0 0∧Below w.heap.size w w':=AnyE.slices_Clone Tryz.laysSlE041_f92 i0 z size bytes hi hz0 hz1 hz2 hzs hsz z23 b off n c news w hl hn hbig hc h1
theorem Tryz.slices_Clone_nil_f91 (n c:Nat)(w:World) :
 Calls Tryz.prog 54 #[.slice none n c] w fun e w'=>e=.returned (.slice none 0 0)∧w'=w:=AnyE.slices_Clone_nil Tryz.laysSlE041_f91 n c w
theorem Tryz.slices_Clone_nil_f92 (n c:Nat)(w:World) :
 Calls Tryz.prog 68 #[.slice none n c] w fun e w'=>e=.returned (.slice none 0 0)∧w'=w:=AnyE.slices_Clone_nil Tryz.laysSlE041_f92 n c w
end Go.Proofs
namespace Go.Proofs.YtnakejhohdbfdacGreatDoor
open Go.RowKit Lev Lay Bnd
theorem count_from {s:ByteArray}{n:Nat}(h:Dec.Ends s n):∀(f k:Nat),k≤n→n - k≤f→Lib.runeCountFrom s f (Dec.pos s k)=n - k
 | 0,k,h1,h2=>by rw[Lib.runeCountFrom];omega
 | f+1,k,h1,h2=>by
   rw[Lib.runeCountFrom]
   rcases Nat.lt_or_eq_of_le h1 with h3 | h3
   ·rw[if_pos (h.2 k h3)]
    have ih:=count_from h f (k+1) h3 (by omega);have e:Dec.pos s k+(Utf8.decode s (Dec.pos s k)).2=Dec.pos s (k+1):=rfl;rw[e,ih];omega
   ·rw[h3,h.1,if_neg (by omega)];omega
theorem count_ends {s:ByteArray}{n:Nat}(h:Dec.Ends s n):Lib.runeCount s=n:=by
 have h1:=count_from h s.size 0 (Nat.zero_le _) (by have:=Dec.le_pos s n;have:=h.1;omega);exact h1
def oor (x:Int):Bool:=decide (x<0) || decide (1073741824<x)
theorem oor_any (x:Int)(w:World):Calls Tryz.prog 121 #[.int .i64 x] w fun e w'=>e=.returned (.bool (oor x))∧w'=w:=by
 by_cases h1:x<0
 ·have e:oor x=true:=by simp[oor,h1]
  rw[e];go_enter Tryz.func121,Tryz.ntmps121;go_wp2;go_ret;exact⟨rfl,rfl⟩
 ·have h1':decide (x<0)=false:=decide_eq_false h1
  by_cases h2:1073741824<x
  ·have e:oor x=true:=by simp[oor,h2]
   rw[e];go_enter Tryz.func121,Tryz.ntmps121;go_wp2;go_ret;exact⟨rfl,rfl⟩
  ·have e:oor x=false:=by simp[oor];omega
   have h2':decide (1073741824<x)=false:=decide_eq_false h2;rw[e];go_enter Tryz.func121,Tryz.ntmps121;go_wp2;go_ret;exact⟨rfl,rfl⟩
set_option maxHeartbeats 2000000 in
theorem idx_any (W:List Int)(v:Value)(w:World)(hv:slAt w v W)(hl:W.length≤5000):Calls Tryz.prog 162 #[v,.func (.func 121) #[] #[]] w fun e w'=>∃r:Int,e=.returned (.int .i64 r)∧((r=-1∧wOk W W.length=true)∨(0≤r∧wOk W W.length=false))∧w'=w:=by
 obtain⟨a,c,rfl,hrow⟩:=hv;have HR:=hid hrow;obtain⟨n,hn⟩:∃n,n=W.length:=⟨_,rfl⟩;rw[←hn]at hl HR ⊢;have HN:=hid hn;clear hrow hn;go_enter Tryz.func162,Tryz.ntmps162;go_wp2_with fail;go_loop [8] (fun ii=>∃i:Nat,ii=.int .i64 i∧i≤n∧Hid (∀j,j<i→0≤nth W j∧nth W j≤1073741824)) (fun ii=>n - (intOf ii).toNat)
 case atStart=>exact⟨0,rfl,Nat.zero_le _,hid (fun j hj=>absurd hj (Nat.not_lt_zero _))⟩
 case round =>
  obtain⟨i,rfl,hin,HM⟩:=hrel;by_cases hil:i<n
  ·have hiI:(i:Int)<(n:Int):=by omega
   obtain⟨g,o,ha,hr⟩:=HR.out.resolve_left (by omega);have d0:=hr i hil;subst ha;have HO:=hid (oor_any (nth W i));have HNO:=hid (fun h=>wOk_not (W:=W) hil h);cases ho:oor (nth W i)
   ·have HM2:=hid (show ∀j,j<i+1→0≤nth W j∧nth W j≤1073741824 from fun j hj=>by
     rcases Nat.lt_or_eq_of_le (Nat.le_of_lt_succ hj)with h | h
     ·exact HM.out j h
     ·rw[h];simp[oor]at ho;omega)
    rw[ho]at HO;clear ho;generalize nth W i=y at *;go_wp2_with (go_at_call 121;refine(HO.out _).mono ?_;rintro e w' ⟨rfl,rfl⟩);go_round
    case rel=>exact⟨i+1,by go_num,by omega,HM2⟩
    case measure=>simp[intOf];omega
   ·have HF:=hid (HNO.out (fun h=>by simp[oor]at ho;omega))
    rw[ho]at HO;clear ho;generalize nth W i=y at *;go_wp2_with (go_at_call 121;refine(HO.out _).mono ?_;rintro e w' ⟨rfl,rfl⟩);go_ret;exact⟨_,rfl,.inr ⟨by omega,HF.out⟩,rfl⟩
  ·have HT:=hid (wOk_all (W:=W) (n:=n) (fun j hj=>HM.out j (by omega)))
   go_wp2;go_ret;exact⟨_,rfl,.inl ⟨rfl,HT.out⟩,rfl⟩
set_option maxHeartbeats 2000000 in
theorem cont_any (W:List Int)(v:Value)(w:World)(hv:slAt w v W)(hl:W.length≤5000):Calls Tryz.prog 133 #[v,.func (.func 121) #[] #[]] w fun e w'=>e=.returned (.bool (!wOk W W.length))∧w'=w:=by
 have H:=hid (idx_any W v w hv hl);generalize wOk W W.length=ok at *;clear hv;go_enter Tryz.func133,Tryz.ntmps133;go_wp2_with fail;refine H.out.mono ?_;rintro e w' ⟨r,rfl,hr,rfl⟩
 rcases hr with⟨rfl,rfl⟩ | ⟨h0,rfl⟩
 ·go_wp2
  go_ret;exact⟨rfl,rfl⟩
 ·go_wp2
  go_ret;exact⟨rfl,rfl⟩
theorem fr_iter (w:World)(s:ByteArray)(q:Nat):Fr [] w (w.iter s q):=(Fr.refl [] w).alloc (.stringIter s q)
def errAt (w:World)(g:Nat):Prop:=∃t v,w.cell? ⟨g,0,none⟩=some (.iface t v)
def okW (W:List Int)(n:Nat):Bool:=decide (W.length=n) && wOk W n
set_option maxHeartbeats 2000000 in
theorem ckW_any (s:ByteArray)(n:Nat)(W:List Int)(v:Value)(w:World)(hs:s.size≤400)(hend:Dec.Ends s n)(hv:slAt w v W)(hl:W.length≤5000)(h5:errAt w 5)(h6:errAt w 4) :
 Calls Tryz.prog 107 #[.string s,v] w fun e w'=>∃x,e=.returned x∧((∃t u,x=.iface t u∧okW W n=false)∨(x=.nilIface∧okW W n=true))∧Fr [] w w':=by
 have HC:=hid (Tryz.utf8_RuneCountInString s w (by omega));rw[count_ends hend]at HC;obtain⟨a,c,rfl,hrow⟩:=hv;obtain⟨t5,v5,c5⟩:=h5;obtain⟨t6,v6,c6⟩:=h6;have hn4:n≤400:=by have:=Dec.le_pos s n;have:=hend.1;omega
 have HV:=hid (show slAt w (.slice a W.length c) W from⟨a,c,rfl,hrow⟩);have HK:=hid (fun(w':World) (hf:Fr [] w w')=>cont_any W _ w' (HV.out.fr hf) hl);obtain⟨ok,hok⟩:∃ok,ok=okW W n:=⟨_,rfl⟩;rw[←hok];obtain⟨m,hm⟩:∃m,m=W.length:=⟨_,rfl⟩;rw[←hm]at HK hl ⊢;have HOK:=hid (show ok=(decide (m=n) && wOk W n) by rw[hok,hm];rfl);clear hrow hend hm hok;go_enter Tryz.func107,Tryz.ntmps107;go_wp2_with fail;refine HC.out.mono ?_;rintro e w1 ⟨rfl,q,rfl⟩;have hf1:Fr [] w (w.iter s q):=fr_iter w s q;have HF1:=hid hf1;have HK1:=hid (HK.out _ hf1);have d5:=hf1.cell c5 List.not_mem_nil;have d6:=hf1.cell c6 List.not_mem_nil;obtain⟨w1,hw1⟩:∃w1,w1=w.iter s q:=⟨_,rfl⟩;rw[←hw1]at d5 d6 HF1 HK1 ⊢;clear hw1 hf1 c5 c6 HC HK;by_cases hmn:m=n
 ·subst hmn
  have HOK2:=hid (show ok=wOk W m by rw[HOK.out];simp);clear HOK;generalize wOk W m=wk at *;cases wk
  all_goals (
   go_wp2_with (go_at_call 133;refine HK1.out.mono ?_;rintro e w' ⟨rfl,rfl⟩)
   go_ret
   first
   | exact⟨_,rfl,.inl ⟨_,_,rfl,HOK2.out⟩,HF1.out⟩
   | exact⟨_,rfl,.inr ⟨rfl,HOK2.out⟩,HF1.out⟩)
 ·have HOK2:=hid (show ok=false by rw[HOK.out,decide_eq_false hmn];rfl)
  have hnn:((m:Int) == (n:Int))=false:=by simp;omega
  have hnn2:¬(m:Int)=(n:Int):=by omega
  go_wp2;go_ret;exact⟨_,rfl,.inl ⟨_,_,rfl,HOK2.out⟩,HF1.out⟩
end Go.Proofs.YtnakejhohdbfdacGreatDoor

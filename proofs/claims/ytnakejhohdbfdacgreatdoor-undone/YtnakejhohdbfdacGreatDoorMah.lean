import Derived.Test.YtnakejhohdbfdacGreatDoorMaf
import Derived.Laws.StructEq
import Derived.Test.YtnakejhohdbfdacGreatDoorMag
import Derived.Shelf.Utf8.RuneCount
import Derived.Shelf.Unicode.DecodeSlow
import Derived.Shelf.Slices.Turned
import Derived.Shelf.Slices.Reverse
import Derived.Ground.Names2Prog
import Derived.Shelf.Slices.Clone
import Derived.Shelf.Slices.Cells
import Derived.Shelf.Slices.Empties
import Derived.Ground.SlgnProg
import Derived.Shelf.SlicesE.Clone
import Derived.Ground.SlgmProg
namespace Go.Proofs.YtnakejhohdbfdacGreatDoor.Cls
open Go.RowKit Dec Go.Proofs.Tryz
theorem LS {s:ByteArray}{n k:Nat}(h:k<n):(Dec.cells (FH s n))[k * 3]?=some (.int .i32 (rune s k))/\(Dec.cells (FH s n))[k * 3+1]?=some (.int .i64 (pos s k:Nat))/\(Dec.cells (FH s n))[k * 3+2]?=some (.int .i64 (pos s (k+1):Nat)):=BE _ _ _ (Oi s n k h)
theorem runs:∀(s:ByteArray),∃n,Dec.Ends s n:=by
 intro s;have key:∀f k,s.size - pos s k<=f->pos s k<=s.size->(∀j,j<k->pos s j<s.size)->∃n,Dec.Ends s n:=by
  intro f
  induction f with
  | zero=>intro k h1 h2 h3;exact⟨k,by omega,h3⟩
  | succ f ih =>
    intro k h1 h2 h3;by_cases hlt:pos s k<s.size
    ·have h4:=mI s k
     have h5:=width_le s (pos s k) hlt;refine ih (k+1) (by omega) h5 (fun j hj=>?_)
     rcases aH (aP hj)with h | h
     ·exact h3 j h
     ·rw[h];exact hlt
    ·exact⟨k,by omega,h3⟩
 exact key s.size 0 (Nat.sub_le _ _) (aN _) (fun j hj=>absurd hj (cu _))
open BA pS
theorem jl {w:World}{base:Nat}{e:TypeId}{size:Nat}{v:Value}{n:Nat}{xs:List Value}(hn:0<n)(h:w.ownsRow base e size v n xs):∃g cap,v=.slice (some ⟨g,0,none⟩) n cap:=by
 rcases h.2 with⟨_,h1⟩ | ⟨g,cap,cur,hv,_⟩
 ·omega
 ·exact⟨g,cap,hv⟩
end Go.Proofs.YtnakejhohdbfdacGreatDoor.Cls
namespace Go.Proofs.YtnakejhohdbfdacGreatDoor
open Go.RowKit j9 Lay pS Go.Proofs.Tryz
def F8 (w:World)(v:Value)(l:List Int):Prop:=∃a c,v=.slice a l.length c/\(l.length=0\/∃g o,a=some ⟨g,o,none⟩/\O2 w g o l.length l)
theorem F8.fr {w w':World}{v:Value}{l:List Int}(h:F8 w v l)(hf:Fr [] w w'):F8 w' v l:=by
 obtain⟨a,c,h1,h2⟩:=h;refine⟨a,c,h1,h2.imp id ?_⟩;rintro ⟨g,o,h3,h4⟩;exact⟨g,o,h3,h4.fr hf aj⟩
def zY (s:ByteArray)(n:Nat):List Int:=(List.range n).map (fun i=>jg.look jg.iY (Dec.rune s i))
end Go.Proofs.YtnakejhohdbfdacGreatDoor
namespace Go.Proofs
open Go.Shelf Go.RowKit Go.Proofs.Tryz
def Tryz.F9:Go.Shelf.Ren:=⟨fun | 195=>34 | n=>n,fun | 9=>9 | 3=>3 | 0=>0 | 4=>4 | n=>n,fun | n=>n⟩
theorem Tryz.To:Go.Proofs.Lays.n195 prog Tryz.F9:={
 mixed:=by kernel_rfl
 f195:=Tryz.func34.trans (congrArg some (by kernel_rfl))
 t0:=underlying0
 a0:=isAgg0
 z0:=sizeOf0
 v0:=zeroValue0
 t3:=underlying3
 a3:=isAgg3
 z3:=sizeOf3
 v3:=zeroValue3
 t4:=underlying4
 a4:=isAgg4
 z4:=sizeOf4
 v4:=zeroValue4
 t9:=underlying9
 a9:=isAgg9
 z9:=sizeOf9
 v9:=zeroValue9 }
theorem Tryz.utf8_RuneCountInString (s:ByteArray)(w:World)(hs:s.size<9223372036854775807) :
 Calls prog 34 #[.string s] w fun e w'=>e=.returned (.int .i64 (Lib.runeCount s))/\∃pos,w'=w.iter s pos:=Any.utf8_RuneCountInString Tryz.To s w hs
def Tryz.F_:Go.Shelf.Ren:=⟨fun | 112=>221 | n=>n,fun | 28=>32 | 3=>3 | 4=>4 | 0=>0 | n=>n,fun | n=>n⟩
theorem Tryz.Tp:Go.Proofs.Lays.n112 prog Tryz.F_:={
 mixed:=by kernel_rfl
 f112:=Tryz.func221.trans (congrArg some (by kernel_rfl))
 t0:=underlying0
 a0:=isAgg0
 z0:=sizeOf0
 v0:=zeroValue0
 t3:=underlying3
 a3:=isAgg3
 z3:=sizeOf3
 v3:=zeroValue3
 t4:=underlying4
 a4:=isAgg4
 z4:=sizeOf4
 v4:=zeroValue4
 t28:=underlying32
 a28:=isAgg32
 z28:=sizeOf32
 v28:=zeroValue32 }
def Tryz.Dx:Go.Shelf.Ren:=⟨fun | 25=>78 | 31=>117 | 32=>118 | 37=>150 | n=>n,fun | 22=>32 | 3=>3 | 4=>4 | 40=>224 | 0=>0 | n=>n,fun | n=>n⟩
theorem Tryz.DZ:Go.Proofs.Lays2.n25 prog Tryz.Dx:={
 mixed:=by kernel_rfl
 f25:=Tryz.func78.trans (congrArg some (by kernel_rfl))
 f31:=Tryz.func117.trans (congrArg some (by kernel_rfl))
 f32:=Tryz.func118.trans (congrArg some (by kernel_rfl))
 f37:=Tryz.func150.trans (congrArg some (by kernel_rfl))
 t0:=underlying0
 a0:=isAgg0
 z0:=sizeOf0
 v0:=zeroValue0
 t3:=underlying3
 a3:=isAgg3
 z3:=sizeOf3
 v3:=zeroValue3
 t4:=underlying4
 a4:=isAgg4
 z4:=sizeOf4
 v4:=zeroValue4
 t22:=underlying32
 a22:=isAgg32
 z22:=sizeOf32
 v22:=zeroValue32
 t40:=underlying224
 a40:=isAgg224
 z40:=sizeOf224
 v40:=zeroValue224 }
theorem Tryz.slices_BinarySearch_int (b off n c:Nat)(zs:List Int)(x:Int)(w:World)(hz:n<=zs.length)(hbig:n<4611686018427387904)(hc:∀j,j<zs.length->w.cell? ⟨b,off+j,none⟩=some (.int .i64 (zs.getD j 0)))(hs:(zs.take n).Pairwise (·<=·)) :
 Calls prog 78 #[.slice (some ⟨b,off,none⟩) n c,.int .i64 x] w fun e w'=>e=.returned (.tuple #[.int .i64 ((zs.take n).countP (·<x):Nat),.bool ((zs.take n).contains x)])/\∃q,w'=w.drewN q:=Any.slices_BinarySearch_int Tryz.DZ b off n c zs x w hz hbig hc hs
theorem Tryz.slices_Reverse_int_cells (b off n c:Nat)(zs:List Int)(w:World)(hz:n<=zs.length)(hbig:n<=9223372036854775807)(hc:∀j,j<zs.length->w.cell? ⟨b,off+j,none⟩=some (.int .i64 (zs.getD j 0)))(hf:∀j,j<n->w.frozen? ⟨b,off+j,none⟩=false) :
 Calls prog 221 #[.slice (some ⟨b,off,none⟩) n c] w fun e w'=>e=.returned (.tuple #[])/\∃q,w'=(w.drewN q).setCells b off ((zs.take n).reverse.map (Value.int .i64)):=Any.slices_Reverse_int_cells Tryz.Tp b off n c zs w hz hbig hc hf
def Tryz.wN:Go.Shelf.Ren:=⟨fun | 41=>54 | n=>n,fun | 22=>32 | 23=>3 | 4=>4 | n=>n,fun | n=>n⟩
theorem Tryz.tQ:Go.Proofs.SlLaysE0.n41 prog Tryz.wN:={
 mixed:=by kernel_rfl
 f41:=⟨Tryz.f54.name,by decide,Tryz.func54.trans (congrArg some (by kernel_rfl))⟩
 t4:=underlying4
 a4:=isAgg4
 z4:=sizeOf4
 v4:=zeroValue4
 t22:=underlying32
 a22:=isAgg32
 z22:=sizeOf32
 v22:=zeroValue32 }
theorem Tryz.yZ (i0:TypeInfo)(z:Value)(size bytes:Nat)(hi:Tryz.prog.info? 3=some i0)(hz0:i0.zero=some z)(hz1:i0.size=size)(hz2:i0.bytes=bytes)(hzs:z.cells.size=size)(hsz:0<size)(z23:∀w,(Go.sizeOf 3).run prog w=.ok size w)(b off n c:Nat)(news:List Value)(w:World)(hl:news.length=n * size)(hn:n<=maxLen)(hbig:n * bytes<=140737488355328)(hc:∀j u,news[j]?=some u->w.cell? ⟨b,off+j,none⟩=some u)(h1:∀u∈news,u.oneCell'=true) :
 Calls prog 54 #[.slice (some ⟨b,off,none⟩) n c] w fun e w'=>∃v',e=.returned v'/\w'.ownsRow w.heap.size 3 size v' n news/\v'≠.slice none 0 0/\Below w.heap.size w w':=AnyE.slices_Clone Tryz.tQ i0 z size bytes hi hz0 hz1 hz2 hzs hsz z23 b off n c news w hl hn hbig hc h1
theorem Tryz.tR (n c:Nat)(w:World) :
 Calls prog 54 #[.slice none n c] w fun e w'=>e=.returned (.slice none 0 0)/\w'=w:=AnyE.slices_Clone_nil Tryz.tQ n c w
end Go.Proofs
namespace Go.Proofs.YtnakejhohdbfdacGreatDoor
open Go.RowKit j9 Lay pS Go.Proofs.Tryz
theorem Cg {s:ByteArray}{n:Nat}(h:Dec.Ends s n):∀(f k:Nat),k<=n->n - k<=f->Lib.runeCountFrom s f (Dec.pos s k)=n - k
 | 0,k,h1,h2=>by rw[Lib.runeCountFrom];omega
 | f+1,k,h1,h2=>by
   rw[Lib.runeCountFrom]
   rcases aH h1 with h3 | h3
   ·rw[aE (h.2 k h3)]
    have ih:=Cg h f (k+1) h3 (by omega);have e:Dec.pos s k+(Utf8.decode s (Dec.pos s k)).2=Dec.pos s (k+1):=rfl;rw[e,ih];omega
   ·rw[h3,h.1,ay (by omega)];omega
theorem Ch {s:ByteArray}{n:Nat}(h:Dec.Ends s n):Lib.runeCount s=n:=by
 have h1:=Cg h s.size 0 (aN _) (by have:=Dec.lV s n;have:=h.1;omega);exact h1
def Tq (x:Int):Bool:=decide (x<0) || decide (1073741824<x)
theorem Km (x:Int)(w:World):Calls prog 121 #[.int .i64 x] w fun e w'=>e=.returned (.bool (Tq x))/\w'=w:=by
 by_cases h1:x<0
 ·have e:Tq x=true:=by simp[Tq,h1]
  rw[e];go_enter func121,ntmps121;go_wp2;go_ret;exact⟨rfl,rfl⟩
 ·have h1':decide (x<0)=false:=bS h1
  by_cases h2:1073741824<x
  ·have e:Tq x=true:=by simp[Tq,h2]
   rw[e];go_enter func121,ntmps121;go_wp2;go_ret;exact⟨rfl,rfl⟩
  ·have e:Tq x=false:=by simp[Tq];omega
   have h2':decide (1073741824<x)=false:=bS h2;rw[e];go_enter func121,ntmps121;go_wp2;go_ret;exact⟨rfl,rfl⟩
def okW (W:List Int)(n:Nat):Bool:=decide (W.length=n) && Zu W n
end Go.Proofs.YtnakejhohdbfdacGreatDoor

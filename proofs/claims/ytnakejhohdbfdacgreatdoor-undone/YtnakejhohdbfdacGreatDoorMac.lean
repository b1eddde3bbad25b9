import Derived.Test.YtnakejhohdbfdacGreatDoorMaa
import Derived.Shelf.Unicode.DecodeAny
import Derived.Shelf.Slices.SearchI
import Derived.Test.YtnakejhohdbfdacGreatDoorProg
import Derived.Lib.LaidU8
import Derived.Lib.TrimU
import Derived.Lib.RuneCountTail
import Derived.Lib.QuoteLoop
import Derived.WalkSmall
import Derived.Lib.OthersKept
import Derived.Test.YtnakejhohdbfdacGreatDoorMab
import Derived.Lib.Builder
set_option maxHeartbeats 4000000
set_option maxRecDepth 10000
namespace Go.Proofs.YtnakejhohdbfdacGreatDoor.Cls
open Go.RowKit jg Go.Proofs.Tryz
theorem Lr (i:Nat)(hi:i<33)(r z:Int)(b:Nat)(w:World)(hr:w.cell? ⟨b,0,none⟩=some (.int .i32 r))(hz:w.cell? ⟨0,i * 3+1,none⟩=some (.int .i32 z)) :
 Calls prog 74 (#[.int .i64 i]++#[.pointer (some ⟨b,0,none⟩)]) w fun e w'=>e=.returned (.bool (decide (r<=z)))/\∃q,w'=w.drewN q:=by
 have hi1:(i:Int)<33:=by omega
 go_enter func74,ntmps74;go_wp2;go_quiet (fail);go_wp2;go_ret;exact⟨rfl,_,rfl⟩
theorem Ob (args:Array Value)(w:World):(callFunc 74 args).run prog w=.ok (.enter 74 args) w:=by kernel_rfl
theorem SZ (r:Int)(b:Nat)(w:World)(ht:TabAt w 0 jr)(hr:w.cell? ⟨b,0,none⟩=some (.int .i32 r)) :
 Calls prog 73 #[.int .i64 33,.func (.func 74) #[] #[.pointer (some ⟨b,0,none⟩)]] w fun e w'=>∃k:Nat,k<=33/\(∀t,t<k->decide (r<=zL jr t)=false)/\(∀t,k<=t->t<33->decide (r<=zL jr t)=true)/\e=.returned (.int .i64 k)/\∃q,w'=w.drewN q :=
 v_ 74 #[.pointer (some ⟨b,0,none⟩)] 33 (fun i=>decide (r<=zL jr i)) w Ob (by decide)
  (fun m i hi=>Lr i hi r (zL jr i) b (w.drewN m) (by simpa using hr) (by simpa using (ht i (by rw[oY];exact hi)).2.1))
  (fun x y hxy hy h=>Bt jr (-1) uF r x y hxy (by rw[oY];exact hy) h)
theorem Oc (r:Int)(w:World)(h1:44032<=r)(h2:r<=55203) :
 Calls prog 72 #[.int .i32 r] w fun e w'=>e=.returned (.int .i64 (kindOf r))/\w'=w:=by
 cases hs:wh r
 ·rw[SW h1 h2 hs]
  have hq:=W4 hs;clear hs;go_enter func72,ntmps72;go_wp2;go_ret;exact⟨rfl,rfl⟩
 ·rw[N4 h1 h2 hs]
  have hq:=SV hs;clear hs;go_enter func72,ntmps72;go_wp2;go_ret;exact⟨rfl,rfl⟩
theorem Od (r:Int)(w:World)(h1:44032<=r)(h2:r<=55203) :
 Calls prog 37 #[.int .i32 r] w fun e w'=>e=.returned (.int .i64 (kindOf r))/\Below w.heap.size w w':=by
 have hc:=fun w=>Oc r w h1 h2
 generalize kindOf r=v at hc ⊢;go_enter func37,ntmps37;go_wp2_with (go_at_call 72;refine(hc _).mono ?_;rintro e w' ⟨rfl,rfl⟩);go_ret;exact⟨rfl,(fN _ _).alloc (au _) _⟩
theorem Oe (r:Int)(w:World)(ht:TabAt w 0 jr)(hns:¬(44032<=r/\r<=55203)) :
 Calls prog 37 #[.int .i32 r] w fun e w'=>e=.returned (.int .i64 (jg.look jr r))/\Below w.heap.size w w':=by
 have hg:=ht.lt (by rw[oY];decide);have hb1:Below w.heap.size w (w.alloc (.cells #[.int .i32 r] 21)):=(fN _ _).alloc (au _) _;have hs:=SZ r w.heap.size (w.alloc (.cells #[.int .i32 r] 21)) (ht.below hg hb1) (by simp);have HT:Hid (TabAt w 0 jr):=ht;clear ht;generalize hv:jg.look jr r=v;have HV:Hid (jg.look jr r=v):=hv;clear hv;by_cases hs1:44032<=r
 all_goals
  first
  | (have hs2:¬r<=55203:=fun h=>hns ⟨hs1,h⟩)
  | (have ahG:decide (44032<=r)=false:=by simpa using hs1)
  clear hns;go_enter func37,ntmps37;go_wp2_with (go_at_call 73;refine hs.mono ?_;rintro e w' ⟨k,hk,hlo,hhi,rfl,q,rfl⟩);have LO:Hid _:=hlo;clear hs hlo;by_cases hkn:k<33
  ·obtain⟨c0,c1,c2⟩:=(HT.out.below hg hb1) k (by rw[oY];exact hkn)
   clear c1;have hr2:=hhi k (au _) hkn;clear hhi hb1;have Bx:(k:Int)<33:=by omega
   have hd:decide ((k:Int)<33)=true:=by simpa using Bx
   by_cases hfr:Az jr k<=r
   ·have E:NY jr k=v:=(Bu jr (-1) uF r k (by rw[oY];exact hkn) hfr hr2).symm.trans HV.out
    rw[E]at c2;clear E;generalize Az jr k=z at c0 hfr;clear hr2;go_quiet (fail);go_wp2;go_ret;exact⟨rfl,((fN _ _).alloc (au _) _).trans (below_drewN _ _ _)⟩
   ·have E:(0:Int)=v:=(uE jr (-1) uF r k LO.out (fun _=>by omega)).symm.trans HV.out
    have hfr2:decide (Az jr k<=r)=false:=by simpa using hfr
    subst E;generalize Az jr k=z at c0 hfr hfr2;clear hr2;go_quiet (fail);go_wp2;go_ret;exact⟨rfl,((fN _ _).alloc (au _) _).trans (below_drewN _ _ _)⟩
  ·have E:(0:Int)=v:=(uE jr (-1) uF r k LO.out (fun h=>by rw[oY]at h;omega)).symm.trans HV.out
   subst E;have Bx:¬(k:Int)<33:=by omega
   have hd:decide ((k:Int)<33)=false:=by simpa using Bx
   clear hhi hb1;go_quiet (fail);go_wp2;go_ret;exact⟨rfl,((fN _ _).alloc (au _) _).trans (below_drewN _ _ _)⟩
theorem Of (r:Int)(w:World)(ht:TabAt w 0 jr) :
 Calls prog 37 #[.int .i32 r] w fun e w'=>e=.returned (.int .i64 (kindOf r))/\Below w.heap.size w w':=by
 by_cases h:44032<=r/\r<=55203
 ·exact Od r w h.1 h.2
 ·rw[N5 h];exact Oe r w ht h
end Go.Proofs.YtnakejhohdbfdacGreatDoor.Cls
namespace Go.Proofs
open Go.Shelf Go.Proofs.Tryz
def Tryz.zP:Go.Shelf.Ren:=⟨fun | 260=>149 | n=>n,fun | 9=>9 | 21=>21 | 3=>3 | 4=>4 | 5=>5 | 119=>316 | 0=>0 | 46=>224 | 139=>319 | 138=>318 | n=>n,fun | 3=>8 | 4=>9 | n=>n⟩
def Tryz.FG:Go.Shelf.Ren:=⟨fun | 197=>116 | 260=>149 | n=>n,fun | 9=>9 | 21=>21 | 3=>3 | 4=>4 | 5=>5 | 105=>222 | 119=>316 | 0=>0 | 46=>224 | 139=>319 | 138=>318 | n=>n,fun | 3=>8 | 4=>9 | n=>n⟩
theorem Tryz.S4:Go.Proofs.Lays.n197 prog Tryz.FG:={
 mixed:=by kernel_rfl
 f197:=Tryz.func116.trans (congrArg some (by kernel_rfl))
 f260:=Tryz.func149.trans (congrArg some (by kernel_rfl))
 t0:=underlying0
 a0:=isAgg0
 z0:=sizeOf0
 v0:=zeroValue0
 t3:=underlying3
 a3:=isAgg3
 z3:=sizeOf3
 v3:=zeroValue3
 t4:=underlying4
 a4:=isAgg4
 z4:=sizeOf4
 v4:=zeroValue4
 t5:=underlying5
 a5:=isAgg5
 z5:=sizeOf5
 v5:=zeroValue5
 t9:=underlying9
 a9:=isAgg9
 z9:=sizeOf9
 v9:=zeroValue9
 t21:=underlying21
 a21:=isAgg21
 z21:=sizeOf21
 v21:=zeroValue21
 t46:=underlying224
 a46:=isAgg224
 z46:=sizeOf224
 v46:=zeroValue224
 t105:=underlying222
 a105:=isAgg222
 z105:=sizeOf222
 v105:=zeroValue222
 t119:=underlying316
 a119:=isAgg316
 z119:=sizeOf316
 t138:=underlying318
 a138:=isAgg318
 z138:=sizeOf318
 v138:=zeroValue318
 t139:=underlying319
 a139:=isAgg319
 z139:=sizeOf319
 v139:=zeroValue319
 g3:=by kernel_rfl
 g4:=by kernel_rfl }
open Go.RowKit in
theorem Tryz.Og (s:ByteArray)(w:World)(hT:Lib.Utf8Tabs 8 9 w):Calls prog 116 #[.string s] w fun e w'=>e=.returned (.tuple #[.int .i32 (Lib.decodeGo s).1,.int .i64 (Lib.decodeGo s).2])/\Below w.heap.size w w' :=
 Any.utf8_DecodeRuneInString Tryz.S4 s w hT
end Go.Proofs
namespace Go.Proofs.YtnakejhohdbfdacGreatDoor.Cls
open Go.Lib Go.Proofs.Tryz
theorem extra:U8Extra prog Tryz.zP:=⟨by kernel_rfl,by kernel_rfl,by kernel_rfl,by kernel_rfl,by kernel_rfl,by kernel_rfl,by kernel_rfl⟩
theorem Lt:(Rows.laid_unicode_utf8_first:DataW Unit)=firstData:=by kernel_rfl
theorem Ir:(Rows.laid_unicode_utf8_acceptRanges:DataW Unit)=acceptData:=by kernel_rfl
def Oh:Array Value:=((List.range 256).map fun c=>Value.int .u8 (firstT c)).toArray
def Lu:Array Value:=((List.range 16).flatMap fun i=>[Value.int .u8 (accLo i),Value.int .u8 (accHi i)]).toArray
end Go.Proofs.YtnakejhohdbfdacGreatDoor.Cls
namespace Go.Proofs.YtnakejhohdbfdacGreatDoor.Dec
open Go Go.Proofs.Tryz
def pos (s:ByteArray):Nat->Nat
 | 0=>0
 | k+1=>pos s k+(Utf8.decode s (pos s k)).2
def rune (s:ByteArray)(k:Nat):Int:=((Utf8.decode s (pos s k)).1:Nat)
def row (s:ByteArray)(k:Nat):Int × Int × Int:=(rune s k,(pos s k:Nat),(pos s (k+1):Nat))
def FH (s:ByteArray):Nat->List (Int × Int × Int)
 | 0=>[]
 | k+1=>FH s k++[row s k]
def AA (s:ByteArray):Nat->List (Int × Int × Int)
 | 0=>[]
 | k+1=>FH s k++[((rune s k,(pos s k:Nat),(s.size:Nat)):Int × Int × Int)]
def Ends (s:ByteArray)(n:Nat):Prop:=pos s n=s.size/\∀j,j<n->pos s j<s.size
theorem width_pos (s:ByteArray)(p:Nat):1<=(Utf8.decode s p).2:=Lib.width_pos s p
theorem width_le (s:ByteArray)(p:Nat)(h:p<s.size):p+(Utf8.decode s p).2<=s.size:=by
 have:(Utf8.decode s p).2<=s.size - p:=by rw[Lib.decode_at];exact Lib.decodeN_width_le _ _ _ _ _ (by omega)
 omega
theorem mI (s:ByteArray)(k:Nat):pos s k<pos s (k+1):=by
 have:=width_pos s (pos s k);show pos s k<pos s k+_;omega
theorem kR (s:ByteArray):∀(a b:Nat),a<b->pos s a<pos s b
 | a,0,h=>by omega
 | a,b+1,h=>by
   have:=mI s b
   rcases aH (aP h)with h1 | h1
   ·have:=kR s a b h1;omega
   ·subst h1;exact this
theorem lV (s:ByteArray):∀k,k<=pos s k
 | 0=>aN _
 | k+1=>by have:=lV s k;have:=mI s k;omega
theorem kW {s:ByteArray}{n m:Nat}(h:Ends s n)(k:Ends s m):n=m:=by
 rcases b8 n m with h1 | h1 | h1
 ·have:=k.2 n h1;have:=h.1;omega
 ·exact h1
 ·have:=h.2 m h1;have:=k.1;omega
theorem mJ (s:ByteArray):∀k,(FH s k).length=k
 | 0=>rfl
 | k+1=>by simp[FH,mJ s k]
theorem Oi (s:ByteArray):∀(n k:Nat),k<n->(FH s n)[k]?=some (row s k)
 | 0,k,h=>by omega
 | n+1,k,h=>by
   rw[FH]
   rcases aH (aP h)with h1 | h1
   ·rw[aJ (by rw[mJ];exact h1)];exact Oi s n k h1
   ·subst h1;rw[aI (by rw[mJ];exact au _),mJ];simp
theorem Lw (s:ByteArray)(k:Nat):(AA s (k+1))[k]?=some (rune s k,((pos s k:Nat):Int),((s.size:Nat):Int)):=by
 rw[AA,aI (by rw[mJ];exact au _),mJ];simp
theorem Oj {s:ByteArray}{n:Nat}(h:Ends s n):AA s n=FH s n:=by
 cases n with
 | zero=>rfl
 | succ n=>rw[FH,AA,row,h.1]
def cells:List (Int × Int × Int)->List Value
 | []=>[]
 | x :: l=>.int .i32 x.1 :: .int .i64 x.2.1 :: .int .i64 x.2.2 :: cells l
theorem sA:∀l:List (Int × Int × Int),(cells l).length=l.length * 3
 | []=>rfl
 | x :: l=>by have:=sA l;simp only[cells,bg,this];omega
theorem pH:∀l m:List (Int × Int × Int),cells l++cells m=cells (l++m)
 | [],_=>rfl
 | x :: l,m=>by simp only[cells,bV,pH l m]
theorem BE:∀(l:List (Int × Int × Int)) (i:Nat) (x:Int × Int × Int),l[i]?=some x ->
 (cells l)[i * 3]?=some (.int .i32 x.1)/\(cells l)[i * 3+1]?=some (.int .i64 x.2.1)/\(cells l)[i * 3+2]?=some (.int .i64 x.2.2)
 | [],i,x,h=>by simp at h
 | y :: l,0,x,h=>by
   simp at h;subst h;exact⟨rfl,rfl,rfl⟩
 | y :: l,i+1,x,h=>by
   have ih:=BE l i x (by simpa using h);rw[show(i+1) * 3=i * 3+1+1+1 by omega];exact ih
theorem zQ (s:ByteArray)(k:Nat):cells (FH s k)++[.int .i32 (rune s k),.int .i64 (pos s k:Nat),.int .i64 (s.size:Nat)]=cells (AA s (k+1)):=by
 rw[AA,<-pH];rfl
theorem Lx (s:ByteArray)(k:Nat):(cells (AA s (k+1))).set (k * 3+2) (.int .i64 (pos s (k+1):Nat))=cells (FH s (k+1)):=by
 rw[FH,AA,<-pH,<-pH,List.set_append_right _ _ (by rw[sA,mJ];omega),sA,mJ];have:k * 3+2 - k * 3=2:=by omega
 rw[this];rfl
theorem oM {w w':World}{base:Nat}{e:TypeId}{size:Nat}{v:Value}{n:Nat}{xs:List Value}(h:w.ownsRow base e size v n xs)(hb:RowKit.Below w.heap.size w w'):w'.ownsRow base e size v n xs:=by
 refine⟨h.1,?_⟩
 rcases h.2 with h1 | ⟨g,cap,cur,hv,hg,hh,r⟩
 ·exact .inl h1
 ·refine .inr ⟨g,cap,cur,hv,hg,?_,r⟩
  rw[hb.block g (aC.1 hh).1];exact hh
theorem iU {w:World}{base base':Nat}{e:TypeId}{size:Nat}{v:Value}{n:Nat}{xs:List Value}(h:w.ownsRow base e size v n xs)(hb:base'<=base):w.ownsRow base' e size v n xs:=by
 refine⟨h.1,?_⟩
 rcases h.2 with h1 | ⟨g,cap,cur,hv,hg,r⟩
 ·exact .inl h1
 ·exact .inr ⟨g,cap,cur,hv,by omega,r⟩
theorem iQ {w:World}{base:Nat}{e:TypeId}{size:Nat}{v:Value}{n:Nat}{xs:List Value}(h:w.ownsRow base e size v (n+1) xs):∃g cap,v=.slice (some ⟨g,0,none⟩) (n+1) cap:=by
 rcases h.2 with⟨_,h1⟩ | ⟨g,cap,cur,hv,_⟩
 ·omega
 ·exact⟨g,cap,hv⟩
theorem ji {w:World}{base:Nat}{e:TypeId}{size:Nat}{n g cap:Nat}{xs:List Value}(h:w.ownsRow base e size (.slice (some ⟨g,0,none⟩) n cap) n xs):base<=g/\g<w.heap.size:=h.lt g rfl
end Go.Proofs.YtnakejhohdbfdacGreatDoor.Dec
namespace Go.Proofs.YtnakejhohdbfdacGreatDoor.Cls
open Go.RowKit Dec Go.Proofs.Tryz
theorem hid {p:Prop}(h:p):Hid p:=h
theorem wu {g3 g4:Nat}{w w':World}(h:Lib.Utf8Tabs g3 g4 w)(hb:Below w.heap.size w w'):Lib.Utf8Tabs g3 g4 w':=by
 refine⟨fun c hc=>?_,fun i hi=>?_⟩
 ·have h1:=h.1 c hc
  exact(hb.cell (p:=⟨g3,c,none⟩) (fC _ _ h1)).trans h1
 ·have h1:=h.2 i hi
  exact⟨(hb.cell (p:=⟨g4,2 * i,none⟩) (fC _ _ h1.1)).trans h1.1,(hb.cell (p:=⟨g4,2 * i+1,none⟩) (fC _ _ h1.2)).trans h1.2⟩
theorem W6:(Tryz.prog.info? 48).map (fun i=>(i.zero,i.size,i.bytes))=some (some (.agg #[.int .i32 0,.int .i64 0,.int .i64 0]),3,24):=by kernel_rfl
theorem wA (w:World)(a b c:Value)(t:TypeId):∀j u,[a,b,c][j]?=some u->(w.alloc (.cells #[a,b,c] t)).cell? ((⟨w.heap.size,0,none⟩:Addr).add j)=some u:=by
 intro j u hj;rw[Addr.add_lit,dL,fX _ _ _ _ rfl];simpa using hj
theorem FI (r a b:Int):∀u∈[Value.int .i32 r,.int .i64 a,.int .i64 b],u.oneCell'=true:=by
 intro u hu;simp only[bA,aj,fB]at hu
 rcases hu with rfl | rfl | rfl <;> rfl
theorem Dt (w:World)(n:Nat)(h:w.heap.size=n)(a b c:Value)(t:TypeId):∀j u,[a,b,c][j]?=some u->(w.alloc (.cells #[a,b,c] t)).cell? ((⟨n,0,none⟩:Addr).add j)=some u:=by
 subst h;exact wA w a b c t
theorem EC {w:World}{it g j:Nat}{s:ByteArray}{p:Nat}{v:Value}(h:w.heap[it]?=some (.stringIter s p))(hne:g≠it):(w.setCell ⟨g,j,none⟩ v).heap[it]?=some (.stringIter s p):=by
 rw[fP _ _ _ _ (fun e=>hne e.symm)];exact h
end Go.Proofs.YtnakejhohdbfdacGreatDoor.Cls
namespace Go.Proofs.YtnakejhohdbfdacGreatDoor.pS
open Go Dec BA Go.Proofs.Tryz
def kf (s:ByteArray)(k:Nat):Int:=jg.kindOf (rune s k)
def jn (s:ByteArray):Nat->Bool
 | 0=>true
 | m+1=>N7 (kf s m) (pref (kf s) m) (kf s (m+1))
def lS (s:ByteArray):Nat->List Int
 | 0=>[0]
 | k+1=>if jn s k then lS s k else lS s k++[((pos s k:Nat):Int)]
def bnd (s:ByteArray)(n:Nat):List Int:=if 0<s.size then lS s n++[((s.size:Nat):Int)]else lS s n
def kl (s:ByteArray):Nat->List Int
 | 0=>[]
 | k+1=>kl s k++[kf s k]
theorem mN {s:ByteArray}{k:Nat}(h:jn s k=true):lS s (k+1)=lS s k:=by rw[lS,aE h]
theorem qS {s:ByteArray}{k:Nat}(h:jn s k=false):lS s (k+1)=lS s k++[((pos s k:Nat):Int)]:=by rw[lS,ay (by rw[h];exact aG)]
theorem Ol (s:ByteArray)(m:Nat):wo (lastOf (pref (kf s) (m+1))) (pZ (pref (kf s) (m+1))) (j_ (pref (kf s) (m+1))) (kf s (m+1))=!jn s (m+1) :=
 EA (kf s m) (pref (kf s) m) (kf s (m+1))
theorem qT (s:ByteArray):∀k,1<=(lS s k).length/\(lS s k).length<=k+1
 | 0=>⟨au _,au _⟩
 | k+1=>by
   have ih:=qT s k;cases h:jn s k
   ·rw[qS h,aD,bq];omega
   ·rw[mN h];omega
theorem mO (s:ByteArray)(n:Nat):1<=(bnd s n).length/\(bnd s n).length<=n+2:=by
 have h:=qT s n;unfold bnd;split
 ·rw[aD,bq];omega
 ·omega
theorem wC (s:ByteArray):∀k,(lS s k)[0]?=some 0
 | 0=>rfl
 | k+1=>by
   have ih:=wC s k;have hl:=(qT s k).1;cases h:jn s k
   ·rw[qS h,aJ (by omega)];exact ih
   ·rw[mN h];exact ih
theorem Om (s:ByteArray)(n:Nat):(bnd s n)[0]?=some 0:=by
 have hl:=(qT s n).1;unfold bnd;split
 ·rw[aJ (by omega)];exact wC s n
 ·exact wC s n
theorem w_ (s:ByteArray):∀k,∀x∈lS s (k+1),x<((pos s (k+1):Nat):Int)
 | 0,x,hx=>by
   rw[mN (k:=0) rfl]at hx;simp only[lS,ak]at hx;have:=mI s 0;rw[hx];omega
 | k+1,x,hx=>by
   have h1:=mI s (k+1);cases h:jn s (k+1)
   ·rw[qS h,a_,ak]at hx
    rcases hx with hx | hx
    ·have:=w_ s k x hx;omega
    ·rw[hx];omega
   ·rw[mN h]at hx
    have:=w_ s k x hx;omega
theorem sB (s:ByteArray):∀k,(lS s k).Pairwise (· < ·)
 | 0=>by simp[lS]
 | k+1=>by
   have ih:=sB s k;cases h:jn s k
   ·rw[qS h,dI]
    refine⟨ih,by simp,fun a ha b hb=>?_⟩;rw[ak]at hb;subst hb;cases k with
    | zero=>cases h
    | succ m=>exact w_ s m a ha
   ·rw[mN h];exact ih
theorem Is {s:ByteArray}{n:Nat}(h:Dec.Ends s n):(bnd s n).Pairwise (· < ·):=by
 unfold bnd;split
 ·rename_i hs
  rw[dI];refine⟨sB s n,by simp,fun a ha b hb=>?_⟩;rw[ak]at hb;subst hb;cases n with
  | zero=>have h1:=h.1;simp only[pos]at h1;omega
  | succ m=>have:=w_ s m a ha;rw[h.1]at this;exact this
 ·exact sB s n
theorem On {s:ByteArray}{n:Nat}(h:Dec.Ends s n):(bnd s n)[(bnd s n).length - 1]?=some ((s.size:Nat):Int):=by
 unfold bnd;split
 ·rw[aD,bq,dx,aI (au _)];simp
 ·rename_i hs
  have hn:n=0:=by
   cases n with
   | zero=>rfl
   | succ m=>have:=h.2 0 (Nat.succ_pos _);omega
  subst hn;have:s.size=0:=by omega
  rw[this];rfl
def Cut (l:List Int)(x:Int)(k:Nat):Prop:=k<=l.length/\(∀i,i<k->l.getD i 0<x)/\(∀i,k<=i->i<l.length->x<=l.getD i 0)
theorem Oo {y:Int}{l:List Int}{x:Int}{k:Nat}(h:Cut l x k)(hy:y<x):Cut (y :: l) x (k+1):=by
 refine⟨by have:=h.1;simp;omega,fun i hi=>?_,fun i h1 h2=>?_⟩
 ·cases i with
  | zero=>exact hy
  | succ i=>exact h.2.1 i (by omega)
 ·cases i with
  | zero=>omega
  | succ i=>exact h.2.2 i (by omega) (by simpa using h2)
theorem kO (x:Int):∀l:List Int,l.Pairwise (· < ·)->∃k,Cut l x k
 | [],_=>⟨0,au _,fun i h=>by omega,fun i _ h=>by simp at h⟩
 | y :: l,h=>by
   rw[eP]at h;by_cases hy:y<x
   ·obtain⟨k,hk⟩:=kO x l h.2
    exact⟨k+1,Oo hk hy⟩
   ·refine⟨0,aN _,fun i hi=>by omega,fun i _ h2=>?_⟩
    cases i with
    | zero=>show x<=y;omega
    | succ i =>
      have hi:i<l.length:=by simpa using h2
      have:l.getD i 0∈l:=by simp[List.getD,hi]
      have:=h.1 _ this;show x<=l.getD i 0;omega
theorem mP:∀ {l:List Int} {x:Int} {k:Nat},Cut l x k->l.countP (fun y=>decide (y<x))=k
 | [],x,k,h=>by have:=h.1;simp at this;simp[this]
 | y :: l,x,k,h=>by
   cases k with
   | zero =>
     rw[List.countP_eq_zero];intro z hz;obtain⟨i,hi,rfl⟩:=bU hz;have:=h.2.2 i (aN _) hi;rw[List.getD,aA hi]at this;simp only[dZ]at this;simp;omega
   | succ k =>
     have hy:y<x:=h.2.1 0 (Nat.succ_pos _);have hc:Cut l x k:=⟨by have:=h.1;simp at this;omega,fun i hi=>h.2.1 (i+1) (by omega),fun i h1 h2=>h.2.2 (i+1) (by omega) (by simpa using h2)⟩;rw[List.countP_cons,mP hc];simp[hy]
theorem uH {l:List Int}(h:l.Pairwise (· < ·)){i j:Nat}(hij:i<j)(hj:j<l.length):l.getD i 0<l.getD j 0:=by
 rw[bE]at h;have:=h i j (by omega) hj hij;simpa[List.getD,hj,show i<l.length by omega] using this
theorem contains_iff {l:List Int}(hs:l.Pairwise (· < ·)){x:Int}{k:Nat}(h:Cut l x k):l.contains x=true ↔ k<l.length/\l.getD k 0=x:=by
 rw[dU];constructor
 ·intro hm
  obtain⟨i,hi,e⟩:=bU hm;have e2:l.getD i 0=x:=by simp[List.getD,hi,e]
  rcases b8 i k with h1 | h1 | h1
  ·have:=h.2.1 i h1;omega
  ·subst h1;exact⟨hi,e2⟩
  ·have:=uH hs h1 hi
   have:=h.2.2 k (au _) (by omega);omega
 ·rintro ⟨h1,h2⟩
  rw[<-h2];simp[List.getD,h1]
def mY (l:List Int)(x:Int)(up:Bool)(k:Nat):Int:=if l.contains x || up then l.getD k 0 else l.getD (k - 1) 0
structure jN (l:List Int)(z:Int):Prop where
 sorted:l.Pairwise (· < ·)
 head:l[0]?=some 0
 last:l[l.length - 1]?=some z
theorem jW {s:ByteArray}{n:Nat}(h:Dec.Ends s n):jN (bnd s n) ((s.size:Nat):Int):=⟨Is h,Om s n,On h⟩
theorem jN.Oq {l:List Int}{z:Int}(h:jN l z):l.getD 0 0=0:=by rw[List.getD,h.head];rfl
theorem jN.len {l:List Int}{z:Int}(h:jN l z):0<l.length:=by
 have:=h.head;cases l with
 | nil=>cases this
 | cons _ _=>exact Nat.succ_pos _
theorem jN.Ot {l:List Int}{z x:Int}{k:Nat}(h:jN l z)(hc:Cut l x k)(hx:x<=z):k<l.length:=by
 rcases aH hc.1 with h1 | h1
 ·exact h1
 ·have h0:=h.len
  have h2:=hc.2.1 (l.length - 1) (by omega);rw[List.getD,h.last]at h2;simp only[dZ]at h2;omega
theorem jN.uI {l:List Int}{z x:Int}{k:Nat}(h:jN l z)(hc:Cut l x k)(hx:0<=x)(hn:l.contains x=false):0<k:=by
 rcases bO k with h1 | h1
 ·subst h1
  have h2:=hc.2.2 0 (au _) h.len;have h3:=h.Oq;have:l.contains x=true:=(contains_iff h.sorted hc).2 ⟨h.len,by omega⟩;rw[hn]at this;cases this
 ·exact h1
theorem S5 {l:List Int}{x:Int}{k:Nat}:mY l x true k=l.getD k 0:=by
 unfold mY;rw[Bool.or_true,aE rfl]
end Go.Proofs.YtnakejhohdbfdacGreatDoor.pS
namespace Go.Proofs.YtnakejhohdbfdacGreatDoor.Cls
open Go.RowKit Dec BA pS Go.Proofs.Tryz
abbrev iS (l:List Int):List Value:=l.map (Value.int .i64)
theorem info3:(Tryz.prog.info? 3).map (fun i=>(i.zero,i.size,i.bytes))=some (some (.int .i64 0),1,8):=by kernel_rfl
theorem one_cell (x:Int):∀u∈[Value.int .i64 x],u.oneCell'=true:=by
 intro u hu;rw[ak]at hu;subst hu;rfl
theorem own_ne {w:World}{base:Nat}{e:TypeId}{size:Nat}{v:Value}{n:Nat}{xs:List Value}(h:w.ownsRow base e size v n xs){k:Nat}{o:Obj}(hk:w.heap[k]?=some o)(ho:∀c f,o≠.cells c e f):some k≠v.ownBlock:=by
 intro e1
 rcases h.2 with⟨h1,_⟩ | ⟨g,cap,cur,h1,_,hg,_⟩
 ·rw[h1]at e1;cases e1
 ·rw[h1]at e1
  simp only[Value.ownBlock,eV]at e1;subst e1;rw[hk]at hg;exact ho _ _ (aZ hg)
theorem Ou {w:World}{base:Nat}{e:TypeId}{size:Nat}{v:Value}{n:Nat}{xs:List Value}(h:w.ownsRow base e size v n xs){k:Nat}{s:ByteArray}{p:Nat}(hk:w.heap[k]?=some (.stringIter s p))(q:Nat):(w.iterAt k s q).ownsRow base e size v n xs:=by
 refine⟨h.1,?_⟩
 rcases h.2 with h1 | ⟨g,cap,cur,hv,hg,hh,r⟩
 ·exact .inl h1
 ·refine .inr ⟨g,cap,cur,hv,hg,?_,r⟩
  rw[Lib.iterAt_other w k g s q (fun e=>by rw[e,hk]at hh;cases hh)];exact hh
theorem BF {w w':World}{base:Nat}{e:TypeId}{size:Nat}{v:Value}{n:Nat}{xs:List Value}(h:w.ownsRow base e size v n xs){k:Nat}(hg:w.grownBy w' (some k))(hk:some k≠v.ownBlock):w'.ownsRow base e size v n xs :=
 h.kept hg (.inr (fun e=>hk e.symm))
theorem It (w:World)(o1 o2:Obj)(s:ByteArray):(((w.alloc o1).alloc o2).iter s 0).heap[w.heap.size+1+1]?=some (.stringIter s 0):=by
 have e:((w.alloc o1).alloc o2).heap.size=w.heap.size+1+1:=by simp
 rw[<-e];exact ig _ _ _
theorem FJ (w:World)(o1 o2:Obj)(s:ByteArray):(((w.alloc o1).alloc o2).iter s 0).heap[w.heap.size+1]?=some o2:=by
 have e:(w.alloc o1).heap.size=w.heap.size+1:=by simp
 refine(gC _ _ _ (by simp)).trans ?_;rw[<-e];exact gQ _ _
theorem Lz (w:World)(o2:Obj)(s:ByteArray):(((w.alloc (.cells #[.int .i64 0] 3)).alloc o2).iter s 0).ownsRow w.heap.size 3 1 (.slice (some ⟨w.heap.size,0,none⟩) 1 1) 1 [.int .i64 0] :=
 ((iq (base:=w.heap.size) (e:=3) (size:=1) w #[.int .i64 0] 1 (au _) (by decide) rfl).alloc o2).alloc _
theorem FK (w:World)(o1 o2:Obj)(s:ByteArray):Below w.heap.size w (((w.alloc o1).alloc o2).iter s 0) :=
 (((fN _ _).alloc (au _) o1).alloc (by simp) o2).alloc (by simp;omega) _
theorem qU (l:List Int)(x:Int):iS l++[.int .i64 x]=iS (l++[x]):=by simp[iS]
theorem xg (l:List Int)(x:Int):(l++[x]).length=l.length+1:=by simp
theorem qV (s:ByteArray)(w:World)(hs:s.size<=1000000)(ht:TabAt w 0 jg.jr) :
 Calls prog 20 #[.string s] w fun e w'=>∃n v,Dec.Ends s n/\e=.returned v/\w'.ownsRow w.heap.size 3 1 v (bnd s n).length (iS (bnd s n))/\Below w.heap.size w w':=by
 obtain⟨i0,hi,hz0,hz1,hz2⟩:=fY info3;have HT:=hide ht;have h0:=ht.lt (by rw[jg.oY];decide);clear ht;go_enter func20,ntmps20;go_wp2_with fail
 go_loopw [3] (fun v wr=>∃k p:Nat,p<=s.size/\k<=p/\wr.heap[w.heap.size+1+1]?=some (.stringIter s p)/\Hid (p=pos s k)/\Hid (∀j,j<k->pos s j<s.size) /\
  Hid (wr.heap[w.heap.size+1]?=some (.cells #[.int .i64 (lastOf (pref (kf s) k)),.int .i64 (pZ (pref (kf s) k)),.bool (j_ (pref (kf s) k))] 107 (0,0))) /\
  Hid (wr.ownsRow w.heap.size 3 1 v (lS s k).length (iS (lS s k)))/\Hid (Below w.heap.size w wr)) (fun _ wr=>s.size - wr.iterPos (w.heap.size+1+1))
 case atStart=>exact⟨0,0,aN _,au _,It _ _ _ _,hide rfl,hide (fun j hj=>absurd hj (cu _)),hide (FJ _ _ _ _),hide (Lz _ _ _),hide (FK _ _ _ _)⟩
 case round =>
  obtain⟨k,p,hp,hkp,hit,HP,HJ,HA,HO,HB⟩:=hrel;have hlen:=qT s k;by_cases hlt:p<s.size
  ·have hw1:=width_pos s p
   have hw2:=width_le s p hlt;have hnx:=fun ty=>gZ (P:=prog) wr (w.heap.size+1+1) s p ty hit hlt
   have HQ:Hid (p+(Utf8.decode s p).2=pos s (k+1)):=by rw[HP.out];rfl
   have HK:Hid (jg.kindOf ((Utf8.decode s p).1:Nat)=kf s k):=by rw[HP.out];rfl
   generalize (Utf8.decode s p).1=r at hnx HK;generalize (Utf8.decode s p).2=n at hnx HQ hw1 hw2;have hJ2:Hid (∀j,j<k+1->pos s j<s.size):=by
    intro j hj
    rcases aH (aP hj)with h1 | h1
    ·exact HJ.out j h1
    ·rw[h1,<-HP.out];exact hlt
   have HI:=hide (iD wr (w.heap.size+1+1) s p (p+n) hit);have yI:=hide (iB HB.out (show w.heap.size<=w.heap.size+1+1 by omega) s (p+n));have xq:=hide ((Lib.iterAt_other wr (w.heap.size+1+1) (w.heap.size+1) s (p+n) (by omega)).trans HA.out);have DN:Hid ((wr.iterAt (w.heap.size+1+1) s (p+n)).ownsRow w.heap.size 3 1 u3 (lS s k).length (iS (lS s k))):=Ou HO.out hit _;have HIT:=hide hit;generalize wr.iterAt (w.heap.size+1+1) s (p+n)=wi at hnx HI yI xq DN;have HC:=hide (Of r wi (HT.out.below h0 yI.out));have HK2:=hide HK.out.symm;rw[HK.out]at HC;generalize hkd:kf s k=kd at HC;have J_:=hide hkd;clear hkd hit HK HK2 HO HA;go_wp2_with fail;refine HC.out.mono ?_;rintro e w1 ⟨rfl,hb1⟩;have HI1:Hid (w1.heap[w.heap.size+1+1]?=some (.stringIter s (p+n))):=by
    rw[hb1.block _ (aC.1 HI.out).1];exact HI
   have hA1:=hb1.block (w.heap.size+1) (aC.1 xq.out).1;rw[xq.out]at hA1;have HA1:=hide hA1;have lT:=hide (oM DN.out hb1);have HB1:=hide (yI.out.trans (hb1.mono yI.out.size));clear hA1 hb1 HC HI yI xq DN;cases k with
   | zero =>
     have hp0:p=0:=HP.out;have hpz:¬(0:Int)<(p:Int):=by omega
     have hpd:decide ((0:Int)<(p:Int))=false:=by simpa using hpz
     have DQ:=hide (BD (w.heap.size+1) _ _ _ kd w1 HA1.out);have Fq:=hide (own_ne lT.out HA1.out (by intro c f e;cases e));have hsz1:=HB1.out.size;have HH0:=hide hp0;clear hp0;go_wp2_with fail;refine DQ.out.mono ?_;rintro e w3 ⟨rfl,hA3,hg3⟩;have lD:=hide (BF lT.out hg3 Fq.out);have HB3:=hide (HB1.out.grown hg3 (by omega) (by intro x hx;cases hx;omega));have HI3:Hid (w3.heap[w.heap.size+1+1]?=some (.stringIter s (p+n))):=by
      rw[hg3.block _ (aC.1 HI1.out).1 (by simp)];exact HI1.out
     have J':Hid (w3.heap[w.heap.size+1]?=some (.cells #[.int .i64 (lastOf (pref (kf s) (0+1))),.int .i64 (pZ (pref (kf s) (0+1))),.bool (j_ (pref (kf s) (0+1)))] 107 (0,0))):=by
      rw[pref,J_.out];exact hide hA3
     clear hA3 hg3 DQ;go_wp2;go_roundw
     case rel=>exact⟨0+1,p+n,by omega,by omega,HI3.out,HQ,hJ2,J',hide (by rw[mN rfl];exact lD.out),HB3⟩
     case measure=>rw[gJ HI3.out,gJ HIT.out];omega
   | succ m =>
     have hpz:(0:Int)<(p:Int):=by omega
     have CP:=Oa (w.heap.size+1) _ _ _ kd w1 (fI w1 _ 0 _ _ _ HA1.out) (fI w1 _ 1 _ _ _ HA1.out) (fI w1 _ 2 _ _ _ HA1.out);rw[<-J_.out,Ol]at CP;have Fq:=hide (own_ne lT.out HA1.out (by intro c f e;cases e));have HNI:=hide (own_ne lT.out HI1.out (by intro c f e;cases e));have hsz1:=HB1.out.size;cases hjn:jn s (m+1)
     ·rw[hjn]at CP
      have HJN:=hide hjn;have Z6:=hide CP;clear hjn CP;rw[J_.out]at Z6;have jO:=hide (lT.out.alloc (.cells #[.int .i64 p] 3));go_wp2_with fail;refine Z6.out.mono ?_;rintro e w1' ⟨rfl,rfl⟩;go_wp2_with (at_builtin;refine fV _ rfl _ _ 32 rfl w.heap.size 3 i0 _ 1 8 underlying32 hi hz0 hz1 hz2 rfl (by decide) _ _ _ rfl jO.out ⟨w1'.heap.size,0,none⟩ 1 1 [.int .i64 p] rfl rfl (iF _ _ _) (one_cell _) (by unfold maxLen;omega) (by omega) (by simp;omega) ?_);intro v' w2 jR hgrow hnil;have oI:Hid (w2.ownsRow w.heap.size 3 1 v' (lS s (m+1+1)).length (iS (lS s (m+1+1)))):=by
       rw[qS HJN.out,xg,<-qU,<-HP.out];exact hide jR
      have FL:=hide ((HB1.out.alloc (by omega) (.cells #[.int .i64 p] 3)).grown hgrow (by simp;omega) (by intro x hx;exact(lT.out.lt x hx).1));have HI4:Hid (w2.heap[w.heap.size+1+1]?=some (.stringIter s (p+n))):=by
       rw[hgrow.block _ (by have:=(aC.1 HI1.out).1;simp;omega) HNI.out];exact(gC _ _ _ (aC.1 HI1.out).1).trans HI1.out
      have hA4:=hgrow.block (w.heap.size+1) (by have:=(aC.1 HA1.out).1;simp;omega) Fq.out;rw[gC _ _ _ (aC.1 HA1.out).1,HA1.out]at hA4;have DQ:=hide (BD (w.heap.size+1) _ _ _ kd w2 hA4);have adI:=hide (own_ne oI.out hA4 (by intro c f e;cases e));have hsz2:=FL.out.size;clear jR hgrow hnil hA4 jO Fq HNI lT;go_wp2_with fail;refine DQ.out.mono ?_;rintro e w3 ⟨rfl,hA3,hg3⟩;have lD:=hide (BF oI.out hg3 adI.out);have HB3:=hide (FL.out.grown hg3 (by omega) (by intro x hx;cases hx;omega));have HI3:Hid (w3.heap[w.heap.size+1+1]?=some (.stringIter s (p+n))):=by
       rw[hg3.block _ (aC.1 HI4.out).1 (by simp)];exact HI4.out
      have J':Hid (w3.heap[w.heap.size+1]?=some (.cells #[.int .i64 (lastOf (pref (kf s) (m+1+1))),.int .i64 (pZ (pref (kf s) (m+1+1))),.bool (j_ (pref (kf s) (m+1+1)))] 107 (0,0))):=by
       rw[pref,J_.out];exact hide hA3
      clear hA3 hg3 DQ;go_wp2;go_roundw
      case rel=>exact⟨m+1+1,p+n,by omega,by omega,HI3.out,HQ,hJ2,J',hide (by rw[show lS s (m+1+1)=lS s (m+1+1)from rfl];exact lD.out),HB3⟩
      case measure=>rw[gJ HI3.out,gJ HIT.out];omega
     ·rw[hjn]at CP
      have HJN:=hide hjn;have Z6:=hide CP;clear hjn CP;rw[J_.out]at Z6;have DQ:=hide (BD (w.heap.size+1) _ _ _ kd w1 HA1.out);go_wp2_with fail;refine Z6.out.mono ?_;rintro e w1' ⟨rfl,rfl⟩;go_wp2_with fail;refine DQ.out.mono ?_;rintro e w3 ⟨rfl,hA3,hg3⟩;have lD:=hide (BF lT.out hg3 Fq.out);have HB3:=hide (HB1.out.grown hg3 (by omega) (by intro x hx;cases hx;omega));have HI3:Hid (w3.heap[w.heap.size+1+1]?=some (.stringIter s (p+n))):=by
       rw[hg3.block _ (aC.1 HI1.out).1 (by simp)];exact HI1.out
      have J':Hid (w3.heap[w.heap.size+1]?=some (.cells #[.int .i64 (lastOf (pref (kf s) (m+1+1))),.int .i64 (pZ (pref (kf s) (m+1+1))),.bool (j_ (pref (kf s) (m+1+1)))] 107 (0,0))):=by
       rw[pref,J_.out];exact hide hA3
      clear hA3 hg3 DQ;go_wp2;go_roundw
      case rel=>exact⟨m+1+1,p+n,by omega,by omega,HI3.out,HQ,hJ2,J',hide (by rw[mN HJN.out];exact lD.out),HB3⟩
      case measure=>rw[gJ HI3.out,gJ HIT.out];omega
  ·have hnx:=fun ty=>gN (P:=prog) wr (w.heap.size+1+1) s p ty hit hlt
   have HE:Hid (Dec.Ends s k):=⟨by rw[<-HP.out];omega,HJ.out⟩;have ahH:=HB.out.size;clear hit;by_cases hs0:0<s.size
   ·have hs1:(0:Int)<(s.size:Int):=by omega
    have jO:=hide (HO.out.alloc (.cells #[.int .i64 s.size] 3));go_wp2_with (at_builtin;refine fV _ rfl _ _ 32 rfl w.heap.size 3 i0 _ 1 8 underlying32 hi hz0 hz1 hz2 rfl (by decide) _ _ _ rfl jO.out ⟨wr.heap.size,0,none⟩ 1 1 [.int .i64 s.size] rfl rfl (iF _ _ _) (one_cell _) (by unfold maxLen;omega) (by omega) (by simp;omega) ?_);intro v' w2 jR hgrow hnil;have oI:Hid (w2.ownsRow w.heap.size 3 1 v' (bnd s k).length (iS (bnd s k))):=by
     rw[bnd,aE hs0,xg,<-qU];exact hide jR
    have FL:=hide ((HB.out.alloc (by omega) (.cells #[.int .i64 s.size] 3)).grown hgrow (by simp;omega) (by intro x hx;exact(HO.out.lt x hx).1));clear jR hgrow hnil jO;go_wp2;go_ret;exact⟨k,_,HE.out,rfl,oI.out,FL.out⟩
   ·have hs1:¬(0:Int)<(s.size:Int):=by omega
    go_wp2;go_ret;exact⟨k,HE.out,_,rfl,(by rw[bnd,ay hs0];exact HO.out),HB.out⟩
end Go.Proofs.YtnakejhohdbfdacGreatDoor.Cls
namespace Go.Proofs.YtnakejhohdbfdacGreatDoor.Lay
open Go.Proofs.Tryz
def lP (p:Nat->Bool):List Nat->List Nat->List Nat
 | acc,[]=>acc
 | acc,x :: l=>if p x then lP p (x :: acc) l else acc++x :: lP p [] l
def turn (p:Nat->Bool)(l:List Nat):List Nat:=lP p [] l
theorem DR (p:Nat->Bool):∀(l acc:List Nat),(∀x∈l,p x=true)->lP p acc l=l.reverse++acc
 | [],acc,_=>rfl
 | x :: l,acc,h=>by
   rw[lP,aE (h x (by simp)),DR p l _ (fun y hy=>h y (by simp[hy]))];simp
theorem wD (p:Nat->Bool)(x:Nat)(b:List Nat)(hx:p x=false):∀(a acc:List Nat),lP p acc (a++x :: b)=lP p acc a++x :: turn p b
 | [],acc=>by show lP p acc (x :: b)=acc++x :: lP p [] b;rw[lP.eq_2,ay (by rw[hx];exact aG)]
 | y :: a,acc=>by
   rw[bV,lP,lP];by_cases hy:p y=true
   ·rw[aE hy,aE hy];exact wD p x b hx a _
   ·rw[ay hy,ay hy,wD p x b hx a []];simp
theorem yJ (p:Nat->Bool)(x:Nat)(a b:List Nat)(hx:p x=false):turn p (a++x :: b)=turn p a++x :: turn p b:=wD p x b hx a []
theorem xu (p:Nat->Bool)(l:List Nat)(h:∀x∈l,p x=true):turn p l=l.reverse:=by rw[turn,DR p l [] h];simp
theorem DS (p:Nat->Bool)(x:Nat)(a:List Nat)(hx:p x=false):turn p (a++[x])=turn p a++[x]:=by
 rw[yJ p x a [] hx];rfl
def shut (p:Nat->Bool)(a:List Nat):Prop:=a=[]\/∃b x,a=b++[x]/\p x=false
theorem FM (p:Nat->Bool)(a r:List Nat)(ha:shut p a)(hr:∀x∈r,p x=true):turn p (a++r)=turn p a++r.reverse:=by
 rcases ha with rfl | ⟨b,x,rfl,hx⟩
 ·rw[bT,xu p r hr];rfl
 ·rw[dF,List.singleton_append,yJ p x b r hx,DS p x b hx,xu p r hr];simp
theorem wE (p:Nat->Bool):∀(l acc:List Nat),(∀x∈acc,p x=true)->turn p (lP p acc l)=acc.reverse++l
 | [],acc,h=>by rw[lP,xu p acc h];simp
 | x :: l,acc,h=>by
   rw[lP];by_cases hx:p x=true
   ·rw[aE hx,wE p l (x :: acc) (fun y hy=>by rcases bA.1 hy with e | hy <;> first | exact e ▸ hx | exact h y hy)];simp
   ·have hx':p x=false:=by simpa using hx
    rw[ay hx,yJ p x _ _ hx',xu p acc h,wE p l [] (fun y hy=>by cases hy)];simp
theorem LA (p:Nat->Bool)(l:List Nat):turn p (turn p l)=l:=by
 have:=wE p l [] (fun y hy=>by cases hy);simpa[turn] using this
theorem wF (p:Nat->Bool):∀(l acc:List Nat),(lP p acc l).Perm (acc++l)
 | [],acc=>by rw[lP,dh]
 | x :: l,acc=>by
   rw[lP];split
   ·refine(wF p l (x :: acc)).trans ?_
    rw[bV];exact(List.perm_middle (a:=x) (l₁:=acc) (l₂:=l)).symm
   ·refine List.Perm.append_left acc ?_
    exact List.Perm.cons x (by simpa using wF p l [])
theorem pT (p:Nat->Bool)(l:List Nat):(turn p l).Perm l:=by simpa[turn] using wF p l []
theorem yK (p:Nat->Bool)(f:Nat->Nat):∀(l acc:List Nat),lP p (acc.map f) (l.map f)=(lP (fun x=>p (f x)) acc l).map f
 | [],acc=>rfl
 | x :: l,acc=>by
   rw[List.map_cons,lP,lP];by_cases hx:p (f x)=true
   ·rw[aE hx,aE hx];exact yK p f l (x :: acc)
   ·rw[ay hx,ay hx,dz,List.map_cons];exact congrArg _ (congrArg _ (yK p f l []))
theorem Ov (p:Nat->Bool)(f:Nat->Nat)(l:List Nat):turn p (l.map f)=(turn (fun x=>p (f x)) l).map f:=yK p f l []
theorem tG {p q:Nat->Bool}:∀(l acc:List Nat),(∀x∈l,p x=q x)->lP p acc l=lP q acc l
 | [],acc,_=>rfl
 | x :: l,acc,h=>by
   rw[lP,lP,h x (by simp),tG l _ (fun y hy=>h y (by simp[hy])),tG l _ (fun y hy=>h y (by simp[hy]))]
theorem BG {p q:Nat->Bool}(l:List Nat)(h:∀x∈l,p x=q x):turn p l=turn q l:=tG l [] h
def deep (V:Nat->Int)(l:Nat)(x:Nat):Bool:=decide ((l:Int)<=V x)
def yL (V:Nat->Int)(m:Nat):Nat->List Nat->List Nat
 | 0,l=>l
 | k+1,l=>yL V m k (turn (deep V (m+k)) l)
theorem BH (V:Nat->Int)(m:Nat):∀(k:Nat) (l:List Nat),(yL V m k l).Perm l
 | 0,_=>List.Perm.refl _
 | k+1,l=>(BH V m k _).trans (pT _ l)
theorem Ka (V:Nat->Int)(m j:Nat):∀(k:Nat) (l:List Nat),yL V m (j+k) l=yL V m j (yL V (m+j) k l)
 | 0,l=>rfl
 | k+1,l=>by
   rw[<-dQ,yL,Ka V m j k,yL,dQ m j k]
theorem BI (V:Nat->Int):∀(q:Nat) (l:List Nat),(∀x∈l,∀j:Nat,j<q->V x≠2 * (j:Int)+1)->yL V 1 (2 * q) l=l
 | 0,l,_=>rfl
 | q+1,l,h=>by
   rw[show 2 * (q+1)=(2 * q+1)+1 by omega,yL,yL];have e:turn (deep V (1+2 * q)) (turn (deep V (1+(2 * q+1))) l)=l:=by
    rw[BG (q:=deep V (1+(2 * q+1))) (turn (deep V (1+(2 * q+1))) l) ?_,LA];intro x hx;have hm:x∈l:=(pT _ l).mem_iff.1 hx;have:=h x hm q (by omega);unfold deep;exact decide_eq_decide.2 (by omega)
   rw[e];exact BI V q l fun x hx j hj=>h x hx j (by omega)
theorem LB (V:Nat->Int)(l:List Nat)(top q:Nat)(hq:2 * q+1<=top)(ho:∀x∈l,∀j:Nat,j<q->V x≠2 * (j:Int)+1):yL V 1 top l=yL V (2 * q+1) (top - 2 * q) l:=by
 rw[show top=2 * q+(top - 2 * q) by omega,Ka V 1 (2 * q) (top - 2 * q),show 2 * q+(top - 2 * q) - 2 * q=top - 2 * q by omega,dR 1 (2 * q)];exact BI V q _ fun x hx j hj=>ho x ((BH V _ _ l).mem_iff.1 hx) j hj
theorem Ow (V:Nat->Int)(l:List Nat)(top:Nat)(he:top % 2=0)(ho:∀x∈l,∀j:Nat,V x≠2 * (j:Int)+1):yL V 1 top l=l:=by
 rw[show top=2 * (top / 2) by omega];exact BI V _ l fun x hx j _=>ho x hx j
theorem Kb (V:Nat->Int)(f:Nat->Nat)(m:Nat):∀(k:Nat) (l:List Nat),yL V m k (l.map f)=(yL (fun x=>V (f x)) m k l).map f
 | 0,l=>rfl
 | k+1,l=>by rw[yL,Ov,Kb V f m k];rfl
theorem DT {V U:Nat->Int}(m:Nat):∀(k:Nat) (l:List Nat),(∀x∈l,V x=U x)->yL V m k l=yL U m k l
 | 0,l,_=>rfl
 | k+1,l,h=>by
   rw[yL,yL,BG (q:=deep U (m+k)) l (fun x hx=>by unfold deep;rw[h x hx])];exact DT m k _ fun x hx=>h x ((pT _ l).mem_iff.1 hx)
def yM (l:List Nat)(a b:Nat):List Nat:=l.take a++((l.take b).drop a).reverse++l.drop b
def iN (p:Nat->Bool)(l:List Nat):Nat->List (Nat × Nat) × Nat
 | 0=>([],0)
 | g+1 =>
   if g<l.length/\p (l[g]?.getD 0)=true then iN p l g
   else(if(iN p l g).2<g then(iN p l g).1++[((iN p l g).2,g)]else(iN p l g).1,g+1)
def parts (p:Nat->Bool)(l:List Nat):List (Nat × Nat):=(iN p l (l.length+1)).1
def yN (l:List Nat)(m:List (Nat × Nat)):List Nat:=m.foldl (fun l x=>yM l x.1 x.2) l
theorem yO (l:List Nat)(m:List (Nat × Nat))(x:Nat × Nat):yN l (m++[x])=yM (yN l m) x.1 x.2:=by simp[yN]
theorem tH (l:List Nat)(a b:Nat)(h:a<=b)(hb:b<=l.length):(yM l a b).length=l.length:=by
 simp[yM];omega
theorem FN (x r y:List Nat):yM (x++(r++y)) x.length (x.length+r.length)=x++(r.reverse++y):=by
 unfold yM;rw[List.take_left,<-dF,List.take_append_of_le_length (by simp),show x.length+r.length=(x++r).length by simp,List.drop_left,c_,List.drop_left,dF]
structure S6 (p:Nat->Bool)(l:List Nat)(g:Nat):Prop where
 le:(iN p l g).2<=g
 mid:∀x∈(l.take g).drop (iN p l g).2,p x=true
 sh:shut p (l.take (iN p l g).2)
 bound:∀x∈(iN p l g).1,x.1<x.2/\x.2<(iN p l g).2
 is:yN l (iN p l g).1=turn p (l.take (iN p l g).2)++l.drop (iN p l g).2
theorem take_split (l:List Nat)(a b:Nat)(h:a<=b):l.take b=l.take a++(l.take b).drop a:=by
 have:=(cY a (l.take b)).symm
 rwa [fq,Nat.min_eq_left h]at this
theorem yP (l:List Nat)(g:Nat)(h:g<l.length):l.take (g+1)=l.take g++[l[g]?.getD 0]:=by
 rw[eU,aA h];rfl
theorem LC (l:List Nat)(g:Nat)(h:g<l.length):l.drop g=(l[g]?.getD 0) :: l.drop (g+1):=by
 rw[cZ h,aA h];rfl
theorem BJ (p:Nat->Bool)(l:List Nat):∀g,g<=l.length->S6 p l g
 | 0,_=>⟨au _,by simp,.inl (by simp[iN]),by simp[iN],by simp[iN,yN,turn,lP]⟩
 | g+1,h=>by
   have ih:=BJ p l g (by omega);by_cases hp:p (l[g]?.getD 0)=true
   ·have e:iN p l (g+1)=iN p l g:=by rw[iN,aE ⟨by omega,hp⟩]
    refine⟨by rw[e];have:=ih.le;omega,?_,by rw[e];exact ih.sh,by rw[e];exact ih.bound,by rw[e];exact ih.is⟩;rw[e,yP l g (by omega),eL (by rw[bH];have:=ih.le;omega)];intro x hx;rw[a_,ak]at hx
    rcases hx with hx | rfl
    ·exact ih.mid x hx
    ·exact hp
   ·have hp':p (l[g]?.getD 0)=false:=by simpa using hp
    have e2:(iN p l (g+1)).2=g+1:=by rw[iN,ay (fun h=>hp h.2)]
    have e1:(iN p l (g+1)).1=if(iN p l g).2<g then(iN p l g).1++[((iN p l g).2,g)]else(iN p l g).1:=by rw[iN,ay (fun h=>hp h.2)]
    have hle:=ih.le;refine⟨by omega,by rw[e2];simp,?_,?_,?_⟩
    ·rw[e2,yP l g (by omega)];exact .inr ⟨_,_,rfl,hp'⟩
    ·rw[e1,e2]
     intro x hx;split at hx
     ·rw[a_,ak]at hx
      rcases hx with hx | rfl
      ·have:=ih.bound x hx;omega
      ·dsimp only;omega
     ·have:=ih.bound x hx;omega
    ·rw[e1,e2]
     have hs:=take_split l (iN p l g).2 g hle;have ht:=FM p _ _ ih.sh ih.mid;rw[<-hs]at ht;have hd:l.drop (iN p l g).2=(l.take g).drop (iN p l g).2++l.drop g:=by
      have h3:=cY (g - (iN p l g).2) (l.drop (iN p l g).2);rw[List.drop_drop,show(iN p l g).2+(g - (iN p l g).2)=g by omega,<-List.drop_take]at h3;exact h3.symm
     have hx:turn p (l.take (g+1))++l.drop (g+1)=turn p (l.take (iN p l g).2)++(((l.take g).drop (iN p l g).2).reverse++l.drop g):=by
      rw[yP l g (by omega),DS p _ _ hp',ht,LC l g (by omega)];simp
     rw[hx];split
     ·rename_i hlt
      rw[yO,ih.is,hd];have h1:(turn p (l.take (iN p l g).2)).length=(iN p l g).2:=by rw[(pT p _).length_eq,bH];omega
      have h2:((l.take g).drop (iN p l g).2).length=g - (iN p l g).2:=by rw[cJ,bH];omega
      have h3:=FN (turn p (l.take (iN p l g).2)) ((l.take g).drop (iN p l g).2) (l.drop g);rw[h1,h2,show(iN p l g).2+(g - (iN p l g).2)=g by omega]at h3;exact h3
     ·have:(iN p l g).2=g:=by omega
      rw[ih.is,this];simp
theorem Iu (p:Nat->Bool)(l:List Nat):yN l (parts p l)=turn p l:=by
 have ih:=BJ p l l.length (au _);unfold parts;have e1:(iN p l (l.length+1)).1=if(iN p l l.length).2<l.length then(iN p l l.length).1++[((iN p l l.length).2,l.length)]else(iN p l l.length).1:=by rw[iN,ay (fun h=>by omega)]
 have hle:=ih.le;have ht:=FM p _ _ ih.sh ih.mid;rw[<-take_split l _ _ hle,c_]at ht;rw[e1];split
 ·rename_i hlt
  rw[yO,ih.is,ht];have h1:(turn p (l.take (iN p l l.length).2)).length=(iN p l l.length).2:=by rw[(pT p _).length_eq,bH];omega
  have h3:=FN (turn p (l.take (iN p l l.length).2)) (l.drop (iN p l l.length).2) [];rw[h1,cJ,show(iN p l l.length).2+(l.length - (iN p l l.length).2)=l.length by omega,dh,dh]at h3;exact h3
 ·have:(iN p l l.length).2=l.length:=by omega
  rw[ih.is,this];simp
theorem FO (p:Nat->Bool)(l:List Nat):∀x∈parts p l,x.1<x.2/\x.2<=l.length:=by
 have ih:=BJ p l l.length (au _);have hle:=ih.le;intro x hx;unfold parts at hx;rw[iN,ay (fun h=>by omega)]at hx;dsimp only at hx;split at hx
 ·rw[a_,ak]at hx
  rcases hx with hx | rfl
  ·have:=ih.bound x hx;omega
  ·dsimp only;omega
 ·have:=ih.bound x hx;omega
end Go.Proofs.YtnakejhohdbfdacGreatDoor.Lay

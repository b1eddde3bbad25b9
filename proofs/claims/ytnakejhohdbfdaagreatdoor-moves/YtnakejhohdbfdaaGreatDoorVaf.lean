import Derived.Shelf.Unicode.DecodeAny
import Derived.Shelf.Slices.SearchI
import Derived.Test.YtnakejhohdbfdaaGreatDoorProg
import Derived.Lib.LaidU8
import Derived.Lib.TrimU
import Derived.Lib.RuneCountTail
import Derived.Lib.QuoteLoop
import Derived.WalkSmall
import Derived.Lib.OthersKept
import Derived.Test.YtnakejhohdbfdaaGreatDoorVae
import Derived.Test.YtnakejhohdbfdaaGreatDoorVaa
set_option maxHeartbeats 2000000
namespace Go.Proofs
open Go.Shelf Go.Proofs.Tryz
def Tryz.z6:Go.Shelf.Ren:=⟨fun | 260=>159 | n=>n,fun | 9=>9 | 21=>21 | 3=>3 | 4=>4 | 5=>5 | 119=>282 | 0=>0 | 46=>283 | 139=>286 | 138=>285 | n=>n,fun | 3=>1 | 4=>2 | n=>n⟩
theorem Tryz.TR:Go.Proofs.Lays.n260 prog Tryz.z6:={
 mixed:=by kernel_rfl
 f260:=Tryz.func159.trans (congrArg some (by kernel_rfl))
 t0:=underlying0
 a0:=isAgg0
 z0:=sizeOf0
 v0:=zeroValue0
 t3:=underlying3
 a3:=isAgg3
 z3:=sizeOf3
 v3:=zeroValue3
 t4:=underlying4
 a4:=isAgg4
 z4:=sizeOf4
 v4:=zeroValue4
 t5:=underlying5
 a5:=isAgg5
 z5:=sizeOf5
 v5:=zeroValue5
 t9:=underlying9
 a9:=isAgg9
 z9:=sizeOf9
 v9:=zeroValue9
 t21:=underlying21
 a21:=isAgg21
 z21:=sizeOf21
 v21:=zeroValue21
 t46:=underlying283
 a46:=isAgg283
 z46:=sizeOf283
 v46:=zeroValue283
 t119:=underlying282
 a119:=isAgg282
 z119:=sizeOf282
 t138:=underlying285
 a138:=isAgg285
 z138:=sizeOf285
 v138:=zeroValue285
 t139:=underlying286
 a139:=isAgg286
 z139:=sizeOf286
 v139:=zeroValue286
 g3:=by kernel_rfl
 g4:=by kernel_rfl }
def Tryz.Gw:Go.Shelf.Ren:=⟨fun | 197=>82 | 260=>159 | n=>n,fun | 9=>9 | 21=>21 | 3=>3 | 4=>4 | 5=>5 | 105=>142 | 119=>282 | 0=>0 | 46=>283 | 139=>286 | 138=>285 | n=>n,fun | 3=>1 | 4=>2 | n=>n⟩
theorem Tryz.TS:Go.Proofs.Lays.n197 prog Tryz.Gw:={
 mixed:=by kernel_rfl
 f197:=Tryz.func82.trans (congrArg some (by kernel_rfl))
 f260:=Tryz.func159.trans (congrArg some (by kernel_rfl))
 t0:=underlying0
 a0:=isAgg0
 z0:=sizeOf0
 v0:=zeroValue0
 t3:=underlying3
 a3:=isAgg3
 z3:=sizeOf3
 v3:=zeroValue3
 t4:=underlying4
 a4:=isAgg4
 z4:=sizeOf4
 v4:=zeroValue4
 t5:=underlying5
 a5:=isAgg5
 z5:=sizeOf5
 v5:=zeroValue5
 t9:=underlying9
 a9:=isAgg9
 z9:=sizeOf9
 v9:=zeroValue9
 t21:=underlying21
 a21:=isAgg21
 z21:=sizeOf21
 v21:=zeroValue21
 t46:=underlying283
 a46:=isAgg283
 z46:=sizeOf283
 v46:=zeroValue283
 t105:=underlying142
 a105:=isAgg142
 z105:=sizeOf142
 v105:=zeroValue142
 t119:=underlying282
 a119:=isAgg282
 z119:=sizeOf282
 t138:=underlying285
 a138:=isAgg285
 z138:=sizeOf285
 v138:=zeroValue285
 t139:=underlying286
 a139:=isAgg286
 z139:=sizeOf286
 v139:=zeroValue286
 g3:=by kernel_rfl
 g4:=by kernel_rfl }
open Go.RowKit in
theorem Tryz.Pj (s:ByteArray)(w:World)(hT:Lib.Utf8Tabs 1 2 w):Calls prog 82 #[.string s] w fun e w'=>e=.returned (.tuple #[.int .i32 (Lib.decodeGo s).1,.int .i64 (Lib.decodeGo s).2])/\Below w.heap.size w w' :=
 Any.utf8_DecodeRuneInString Tryz.TS s w hT
end Go.Proofs
namespace Go.Proofs.YtnakejhohdbfdaaGreatDoor.mE
open Go.Lib Go.Proofs.Tryz
theorem extra:U8Extra prog Tryz.z6:=⟨by kernel_rfl,by kernel_rfl,by kernel_rfl,by kernel_rfl,by kernel_rfl,by kernel_rfl,by kernel_rfl⟩
theorem LY:(Rows.laid_unicode_utf8_first:DataW Unit)=firstData:=by kernel_rfl
theorem I_:(Rows.laid_unicode_utf8_acceptRanges:DataW Unit)=acceptData:=by kernel_rfl
def Pk:Array Value:=((List.range 256).map fun c=>Value.int .u8 (firstT c)).toArray
def LZ:Array Value:=((List.range 16).flatMap fun i=>[Value.int .u8 (accLo i),Value.int .u8 (accHi i)]).toArray
end Go.Proofs.YtnakejhohdbfdaaGreatDoor.mE
namespace Go.Proofs.YtnakejhohdbfdaaGreatDoor.gJ
open Go Go.Proofs.Tryz
def pos (s:ByteArray):Nat->Nat
 | 0=>0
 | k+1=>pos s k+(Utf8.decode s (pos s k)).2
def rune (s:ByteArray)(k:Nat):Int:=((Utf8.decode s (pos s k)).1:Nat)
def row (s:ByteArray)(k:Nat):Int × Int × Int:=(rune s k,(pos s k:Nat),(pos s (k+1):Nat))
def B5 (s:ByteArray):Nat->List (Int × Int × Int)
 | 0=>[]
 | k+1=>B5 s k++[row s k]
def Az (s:ByteArray):Nat->List (Int × Int × Int)
 | 0=>[]
 | k+1=>B5 s k++[((rune s k,(pos s k:Nat),(s.size:Nat)):Int × Int × Int)]
def Ends (s:ByteArray)(n:Nat):Prop:=pos s n=s.size/\∀j,j<n->pos s j<s.size
theorem width_pos (s:ByteArray)(p:Nat):1<=(Utf8.decode s p).2:=Lib.width_pos s p
theorem width_le (s:ByteArray)(p:Nat)(h:p<s.size):p+(Utf8.decode s p).2<=s.size:=by
 have:(Utf8.decode s p).2<=s.size - p:=by rw[Lib.decode_at];exact Lib.decodeN_width_le _ _ _ _ _ (by omega)
 omega
theorem decodeGo_tail (s:ByteArray)(p:Nat):Utf8.decode (s.extract p s.size) 0=Utf8.decode s p:=by
 rw[Lib.tail_decode];rfl
theorem o7 (s:ByteArray)(k:Nat):pos s k<pos s (k+1):=by
 have:=width_pos s (pos s k);show pos s k<pos s k+_;omega
theorem kY (s:ByteArray):∀(a b:Nat),a<b->pos s a<pos s b
 | a,0,h=>by omega
 | a,b+1,h=>by
   have:=o7 s b
   rcases aA (aM h)with h1 | h1
   ·have:=kY s a b h1;omega
   ·subst h1;exact this
theorem lU (s:ByteArray):∀k,k<=pos s k
 | 0=>aH _
 | k+1=>by have:=lU s k;have:=o7 s k;omega
theorem jT {s:ByteArray}{n m:Nat}(h:Ends s n)(k:Ends s m):n=m:=by
 rcases bT n m with h1 | h1 | h1
 ·have:=k.2 n h1;have:=h.1;omega
 ·exact h1
 ·have:=h.2 m h1;have:=k.1;omega
theorem l_ (s:ByteArray):∀k,(B5 s k).length=k
 | 0=>rfl
 | k+1=>by simp[B5,l_ s k]
theorem y_ (s:ByteArray):∀(n k:Nat),k<n->(B5 s n)[k]?=some (row s k)
 | 0,k,h=>by omega
 | n+1,k,h=>by
   rw[B5]
   rcases aA (aM h)with h1 | h1
   ·rw[aJ (by rw[l_];exact h1)];exact y_ s n k h1
   ·subst h1;rw[aI (by rw[l_];exact ak _),l_];simp
theorem L2 (s:ByteArray)(k:Nat):(Az s (k+1))[k]?=some (rune s k,((pos s k:Nat):Int),((s.size:Nat):Int)):=by
 rw[Az,aI (by rw[l_];exact ak _),l_];simp
theorem Pm {s:ByteArray}{n:Nat}(h:Ends s n):Az s n=B5 s n:=by
 cases n with
 | zero=>rfl
 | succ n=>rw[B5,Az,row,h.1]
def cells:List (Int × Int × Int)->List Value
 | []=>[]
 | x :: l=>.int .i32 x.1 :: .int .i64 x.2.1 :: .int .i64 x.2.2 :: cells l
theorem sO:∀l:List (Int × Int × Int),(cells l).length=l.length * 3
 | []=>rfl
 | x :: l=>by have:=sO l;simp only[cells,bO,this];omega
theorem nT:∀l m:List (Int × Int × Int),cells l++cells m=cells (l++m)
 | [],_=>rfl
 | x :: l,m=>by simp only[cells,b8,nT l m]
theorem p7:∀(l:List (Int × Int × Int)) (i:Nat) (x:Int × Int × Int),l[i]?=some x ->
 (cells l)[i * 3]?=some (.int .i32 x.1)/\(cells l)[i * 3+1]?=some (.int .i64 x.2.1)/\(cells l)[i * 3+2]?=some (.int .i64 x.2.2)
 | [],i,x,h=>by simp at h
 | y :: l,0,x,h=>by
   simp at h;subst h;exact⟨rfl,rfl,rfl⟩
 | y :: l,i+1,x,h=>by
   have ih:=p7 l i x (by simpa using h);rw[show(i+1) * 3=i * 3+1+1+1 by omega];exact ih
theorem Ja (s:ByteArray)(k:Nat):cells (B5 s k)++[.int .i32 (rune s k),.int .i64 (pos s k:Nat),.int .i64 (pos s (k+1):Nat)]=cells (B5 s (k+1)):=by
 rw[B5,<-nT];rfl
theorem z7 (s:ByteArray)(k:Nat):cells (B5 s k)++[.int .i32 (rune s k),.int .i64 (pos s k:Nat),.int .i64 (s.size:Nat)]=cells (Az s (k+1)):=by
 rw[Az,<-nT];rfl
theorem L3 (s:ByteArray)(k:Nat):(cells (Az s (k+1))).set (k * 3+2) (.int .i64 (pos s (k+1):Nat))=cells (B5 s (k+1)):=by
 rw[B5,Az,<-nT,<-nT,eE _ _ (by rw[sO,l_];omega),sO,l_];have:k * 3+2 - k * 3=2:=by omega
 rw[this];rfl
theorem cells_one:∀(l:List (Int × Int × Int)),∀u∈cells l,u.oneCell'=true
 | [],u,hu=>by cases hu
 | x :: l,u,hu=>by
   simp only[cells,bK]at hu
   rcases hu with rfl | rfl | rfl | hu
   ·rfl
   ·rfl
   ·rfl
   ·exact cells_one l u hu
theorem wQ {w w':World}{base:Nat}{e:TypeId}{size:Nat}{v:Value}{n:Nat}{xs:List Value}(h:w.ownsRow base e size v n xs)(hb:RowKit.Below w.heap.size w w'):w'.ownsRow base e size v n xs:=by
 refine⟨h.1,?_⟩
 rcases h.2 with h1 | ⟨g,cap,cur,hv,hg,hh,r⟩
 ·exact .inl h1
 ·refine .inr ⟨g,cap,cur,hv,hg,?_,r⟩
  rw[hb.block g (aD.1 hh).1];exact hh
theorem gY {w:World}{base base':Nat}{e:TypeId}{size:Nat}{v:Value}{n:Nat}{xs:List Value}(h:w.ownsRow base e size v n xs)(hb:base'<=base):w.ownsRow base' e size v n xs:=by
 refine⟨h.1,?_⟩
 rcases h.2 with h1 | ⟨g,cap,cur,hv,hg,r⟩
 ·exact .inl h1
 ·exact .inr ⟨g,cap,cur,hv,by omega,r⟩
theorem fR {w:World}{base:Nat}{e:TypeId}{size:Nat}{v:Value}{n:Nat}{xs:List Value}(h:w.ownsRow base e size v (n+1) xs):∃g cap,v=.slice (some ⟨g,0,none⟩) (n+1) cap:=by
 rcases h.2 with⟨_,h1⟩ | ⟨g,cap,cur,hv,_⟩
 ·omega
 ·exact⟨g,cap,hv⟩
theorem fZ {w:World}{base:Nat}{e:TypeId}{size:Nat}{n g cap:Nat}{xs:List Value}(h:w.ownsRow base e size (.slice (some ⟨g,0,none⟩) n cap) n xs):base<=g/\g<w.heap.size:=h.lt g rfl
end Go.Proofs.YtnakejhohdbfdaaGreatDoor.gJ
namespace Go.Proofs.YtnakejhohdbfdaaGreatDoor.mE
open Go.RowKit gJ Go.Proofs.Tryz
theorem hid {p:Prop}(h:p):Hid p:=h
theorem oB {g3 g4:Nat}{w w':World}(h:Lib.Utf8Tabs g3 g4 w)(hb:Below w.heap.size w w'):Lib.Utf8Tabs g3 g4 w':=by
 refine⟨fun c hc=>?_,fun i hi=>?_⟩
 ·have h1:=h.1 c hc
  exact(hb.cell (p:=⟨g3,c,none⟩) (eS _ _ h1)).trans h1
 ·have h1:=h.2 i hi
  exact⟨(hb.cell (p:=⟨g4,2 * i,none⟩) (eS _ _ h1.1)).trans h1.1,(hb.cell (p:=⟨g4,2 * i+1,none⟩) (eS _ _ h1.2)).trans h1.2⟩
theorem Gx (s:ByteArray)(p:Nat)(w:World)(h:p<s.size)(hT:Lib.Utf8Tabs 1 2 w) :
 Calls prog 82 #[.string (s.extract p s.size)] w fun e w'=>e=.returned (.tuple #[.int .i32 ((Utf8.decode s p).1:Nat),.int .i64 ((Utf8.decode s p).2:Nat)])/\Below w.heap.size w w':=by
 have:=Tryz.Pj (s.extract p s.size) w hT;have e:Lib.decodeGo (s.extract p s.size)=Utf8.decode s p:=by
  unfold Lib.decodeGo;rw[au (by rw[Lib.tail_size];omega),decodeGo_tail]
 rwa [e]at this
theorem Pn:(Tryz.prog.info? 94).map (fun i=>(i.zero,i.size,i.bytes))=some (some (.agg #[.int .i32 0,.int .i64 0,.int .i64 0]),3,24):=by kernel_rfl
theorem wR (w:World)(a b c:Value)(t:TypeId):∀j u,[a,b,c][j]?=some u->(w.alloc (.cells #[a,b,c] t)).cell? ((⟨w.heap.size,0,none⟩:Addr).add j)=some u:=by
 intro j u hj;rw[Addr.add_lit,c_,eZ _ _ _ _ rfl];simpa using hj
theorem B6 (r a b:Int):∀u∈[Value.int .i32 r,.int .i64 a,.int .i64 b],u.oneCell'=true:=by
 intro u hu;simp only[bK,af,eR]at hu
 rcases hu with rfl | rfl | rfl <;> rfl
theorem tZ (s:ByteArray)(w:World)(hs:s.size<=1000000)(hT:Lib.Utf8Tabs 1 2 w) :
 Calls prog 39 #[.string s] w fun e w'=>∃n v,gJ.Ends s n/\e=.returned v/\w'.ownsRow w.heap.size 94 3 v n (gJ.cells (B5 s n))/\Below w.heap.size w w'/\(n=0->v=.slice none 0 0):=by
 have TT:=hid hT;clear hT;obtain⟨i0,hi,hz0,hz1,hz2⟩:=e_ Pn;go_enter func39,ntmps39;go_wp2;go_loopw [3,4] (fun v i wr=>∃k p:Nat,p<=s.size/\k<=p/\i=.int .i64 p/\Hid (p=pos s k)/\Hid (∀j,j<k->pos s j<s.size)/\Hid (wr.ownsRow w.heap.size 94 3 v k (gJ.cells (B5 s k)))/\Hid (Below w.heap.size w wr)/\Hid (k=0->v=.slice none 0 0)) (fun _ i _=>s.size - (intOf i).toNat)
 case atStart=>exact⟨0,0,aH _,ak _,rfl,hid rfl,hid (fun j hj=>absurd hj (bE _)),hid (eY _ _ _ _),hid (fq _ _),hid (fun _=>rfl)⟩
 case round =>
  obtain⟨k,p,hp,hkp,rfl,HP,HJ,HO,HB,HN⟩:=hrel;by_cases hlt:p<s.size
  ·have hw1:=width_pos s p
   have hw2:=width_le s p hlt;have HC:=hid (Gx s p _ hlt (oB TT.out HB.out));have HR:Hid (((Utf8.decode s p).1:Nat)=rune s k):=by rw[HP.out];rfl
   have HQ:Hid (p+(Utf8.decode s p).2=pos s (k+1)):=by rw[HP.out];rfl
   generalize (Utf8.decode s p).1=r at HC HR;generalize (Utf8.decode s p).2=n at HC HQ hw1 hw2;go_wp2_with fail;refine HC.out.mono ?_;rintro e w1 ⟨rfl,hb1⟩;have kT:=hid ((wQ HO.out hb1).alloc (.cells #[.int .i32 r,.int .i64 p,.int .i64 ((p:Int)+n)] 94));have HB1:=hid ((HB.out.trans (hb1.mono HB.out.size)).alloc (by have:=HB.out.size;have:=hb1.size;omega) (.cells #[.int .i32 r,.int .i64 p,.int .i64 ((p:Int)+n)] 94));have hsz:w.heap.size<=w1.heap.size:=by have:=HB.out.size;have:=hb1.size;omega
   clear HC hb1;go_wp2_with (at_builtin;refine eV _ rfl _ _ 29 rfl w.heap.size 94 i0 _ 3 24 underlying29 hi hz0 hz1 hz2 rfl (by decide) _ _ _ rfl kT.out ⟨w1.heap.size,0,none⟩ 1 1 [.int .i32 r,.int .i64 p,.int .i64 ((p:Int)+n)] rfl rfl (wR _ _ _ _ _) (B6 _ _ _) (by unfold maxLen;omega) (by omega) (by simp;omega) ?_);intro v' w2 mM hgrow hnil;have iG:Hid (w2.ownsRow w.heap.size 94 3 v' (k+1) (gJ.cells (B5 s (k+1)))):=by
    rw[<-Ja,<-HR.out,<-HP.out,<-HQ.out];exact hid (by simpa using mM)
   have HB2:Hid (Below w.heap.size w w2):=HB1.out.grown hgrow (by simp;omega) (by intro g hg;exact(kT.out.lt g hg).1);clear mM hgrow hnil kT HB1;go_wp2;go_roundw
   case rel =>
    refine⟨k+1,p+n,by omega,by omega,by go_num,HQ,?_,iG,HB2,hid (fun h=>by omega)⟩;intro j hj
    rcases aA (aM hj)with h1 | h1
    ·exact HJ.out j h1
    ·rw[h1,<-HP.out];exact hlt
   case measure=>simp[intOf];omega
  ·go_wp2
   go_ret;exact⟨k,_,⟨by rw[<-HP.out];omega,HJ.out⟩,rfl,HO.out,HB.out,HN.out⟩
theorem DK (w:World)(n:Nat)(h:w.heap.size=n)(a b c:Value)(t:TypeId):∀j u,[a,b,c][j]?=some u->(w.alloc (.cells #[a,b,c] t)).cell? ((⟨n,0,none⟩:Addr).add j)=some u:=by
 subst h;exact wR w a b c t
theorem Fh {w:World}{it g j:Nat}{s:ByteArray}{p:Nat}{v:Value}(h:w.heap[it]?=some (.stringIter s p))(hne:g≠it):(w.setCell ⟨g,j,none⟩ v).heap[it]?=some (.stringIter s p):=by
 rw[Below.heap_setCell _ _ _ _ (fun e=>hne e.symm)];exact h
end Go.Proofs.YtnakejhohdbfdaaGreatDoor.mE
namespace Go.Proofs.YtnakejhohdbfdaaGreatDoor.uS
open Go gJ ZB Go.Proofs.Tryz
def kf (s:ByteArray)(k:Nat):Int:=iK.kindOf (rune s k)
def jn (s:ByteArray):Nat->Bool
 | 0=>true
 | m+1=>tL (kf s m) (pref (kf s) m) (kf s (m+1))
def kF (s:ByteArray):Nat->List Int
 | 0=>[0]
 | k+1=>if jn s k then kF s k else kF s k++[((pos s k:Nat):Int)]
def bnd (s:ByteArray)(n:Nat):List Int:=if 0<s.size then kF s n++[((s.size:Nat):Int)]else kF s n
def kl (s:ByteArray):Nat->List Int
 | 0=>[]
 | k+1=>kl s k++[kf s k]
theorem lO {s:ByteArray}{k:Nat}(h:jn s k=true):kF s (k+1)=kF s k:=by rw[kF,ay h]
theorem p8 {s:ByteArray}{k:Nat}(h:jn s k=false):kF s (k+1)=kF s k++[((pos s k:Nat):Int)]:=by rw[kF,au (by rw[h];exact aE)]
theorem Po (s:ByteArray)(m:Nat):wh (lastOf (pref (kf s) (m+1))) (pV (pref (kf s) (m+1))) (jm (pref (kf s) (m+1))) (kf s (m+1))=!jn s (m+1) :=
 EZ (kf s m) (pref (kf s) m) (kf s (m+1))
theorem uT (s:ByteArray):∀k,(kl s k).length=k
 | 0=>rfl
 | k+1=>by simp[kl,uT s k]
theorem Wt (s:ByteArray):∀(n k:Nat),k<n->(kl s n)[k]?=some (kf s k)
 | 0,k,h=>by omega
 | n+1,k,h=>by
   rw[kl]
   rcases aA (aM h)with h1 | h1
   ·rw[aJ (by rw[uT];exact h1)];exact Wt s n k h1
   ·subst h1;rw[aI (by rw[uT];exact ak _),uT];simp
theorem pR (s:ByteArray):∀k,1<=(kF s k).length/\(kF s k).length<=k+1
 | 0=>⟨ak _,ak _⟩
 | k+1=>by
   have ih:=pR s k;cases h:jn s k
   ·rw[p8 h,aG,bH];omega
   ·rw[lO h];omega
theorem pK (s:ByteArray)(n:Nat):1<=(bnd s n).length/\(bnd s n).length<=n+2:=by
 have h:=pR s n;unfold bnd;split
 ·rw[aG,bH];omega
 ·omega
theorem wS (s:ByteArray):∀k,(kF s k)[0]?=some 0
 | 0=>rfl
 | k+1=>by
   have ih:=wS s k;have hl:=(pR s k).1;cases h:jn s k
   ·rw[p8 h,aJ (by omega)];exact ih
   ·rw[lO h];exact ih
theorem Pp (s:ByteArray)(n:Nat):(bnd s n)[0]?=some 0:=by
 have hl:=(pR s n).1;unfold bnd;split
 ·rw[aJ (by omega)];exact wS s n
 ·exact wS s n
theorem xW (s:ByteArray):∀k,∀x∈kF s (k+1),x<((pos s (k+1):Nat):Int)
 | 0,x,hx=>by
   rw[lO (k:=0) rfl]at hx;simp only[kF,aj]at hx;have:=o7 s 0;rw[hx];omega
 | k+1,x,hx=>by
   have h1:=o7 s (k+1);cases h:jn s (k+1)
   ·rw[p8 h,bD,aj]at hx
    rcases hx with hx | hx
    ·have:=xW s k x hx;omega
    ·rw[hx];omega
   ·rw[lO h]at hx
    have:=xW s k x hx;omega
theorem sP (s:ByteArray):∀k,(kF s k).Pairwise (· < ·)
 | 0=>by simp[kF]
 | k+1=>by
   have ih:=sP s k;cases h:jn s k
   ·rw[p8 h,dI]
    refine⟨ih,by simp,fun a ha b hb=>?_⟩;rw[aj]at hb;subst hb;cases k with
    | zero=>cases h
    | succ m=>exact xW s m a ha
   ·rw[lO h];exact ih
theorem Jb {s:ByteArray}{n:Nat}(h:gJ.Ends s n):(bnd s n).Pairwise (· < ·):=by
 unfold bnd;split
 ·rename_i hs
  rw[dI];refine⟨sP s n,by simp,fun a ha b hb=>?_⟩;rw[aj]at hb;subst hb;cases n with
  | zero=>have h1:=h.1;simp only[pos]at h1;omega
  | succ m=>have:=xW s m a ha;rw[h.1]at this;exact this
 ·exact sP s n
theorem Pq {s:ByteArray}{n:Nat}(h:gJ.Ends s n):(bnd s n)[(bnd s n).length - 1]?=some ((s.size:Nat):Int):=by
 unfold bnd;split
 ·rw[aG,bH,bX,aI (ak _)];simp
 ·rename_i hs
  have hn:n=0:=by
   cases n with
   | zero=>rfl
   | succ m=>have:=h.2 0 (Nat.succ_pos _);omega
  subst hn;have:s.size=0:=by omega
  rw[this];rfl
def best (l:List Int)(x:Int):Nat->Int
 | 0=>0
 | i+1=>if l.getD i 0<=x then l.getD i 0 else best l x i
def Cut (l:List Int)(x:Int)(k:Nat):Prop:=k<=l.length/\(∀i,i<k->l.getD i 0<x)/\(∀i,k<=i->i<l.length->x<=l.getD i 0)
theorem Pr {y:Int}{l:List Int}{x:Int}{k:Nat}(h:Cut l x k)(hy:y<x):Cut (y :: l) x (k+1):=by
 refine⟨by have:=h.1;simp;omega,fun i hi=>?_,fun i h1 h2=>?_⟩
 ·cases i with
  | zero=>exact hy
  | succ i=>exact h.2.1 i (by omega)
 ·cases i with
  | zero=>omega
  | succ i=>exact h.2.2 i (by omega) (by simpa using h2)
theorem p9 (x:Int):∀l:List Int,l.Pairwise (· < ·)->∃k,Cut l x k
 | [],_=>⟨0,ak _,fun i h=>by omega,fun i _ h=>by simp at h⟩
 | y :: l,h=>by
   rw[dQ]at h;by_cases hy:y<x
   ·obtain⟨k,hk⟩:=p9 x l h.2
    exact⟨k+1,Pr hk hy⟩
   ·refine⟨0,aH _,fun i hi=>by omega,fun i _ h2=>?_⟩
    cases i with
    | zero=>show x<=y;omega
    | succ i =>
      have hi:i<l.length:=by simpa using h2
      have:l.getD i 0∈l:=by simp[List.getD,hi]
      have:=h.1 _ this;show x<=l.getD i 0;omega
theorem uU:∀ {l:List Int} {x:Int} {k:Nat},Cut l x k->l.countP (fun y=>decide (y<x))=k
 | [],x,k,h=>by have:=h.1;simp at this;simp[this]
 | y :: l,x,k,h=>by
   cases k with
   | zero =>
     rw[List.countP_eq_zero];intro z hz;obtain⟨i,hi,rfl⟩:=bz hz;have:=h.2.2 i (aH _) hi;rw[List.getD,az hi]at this;simp only[dB]at this;simp;omega
   | succ k =>
     have hy:y<x:=h.2.1 0 (Nat.succ_pos _);have hc:Cut l x k:=⟨by have:=h.1;simp at this;omega,fun i hi=>h.2.1 (i+1) (by omega),fun i h1 h2=>h.2.2 (i+1) (by omega) (by simpa using h2)⟩;rw[List.countP_cons,uU hc];simp[hy]
theorem uV {l:List Int}(h:l.Pairwise (· < ·)){i j:Nat}(hij:i<j)(hj:j<l.length):l.getD i 0<l.getD j 0:=by
 rw[bn]at h;have:=h i j (by omega) hj hij;simpa[List.getD,hj,show i<l.length by omega] using this
theorem contains_iff {l:List Int}(hs:l.Pairwise (· < ·)){x:Int}{k:Nat}(h:Cut l x k):l.contains x=true ↔ k<l.length/\l.getD k 0=x:=by
 rw[dN];constructor
 ·intro hm
  obtain⟨i,hi,e⟩:=bz hm;have e2:l.getD i 0=x:=by simp[List.getD,hi,e]
  rcases bT i k with h1 | h1 | h1
  ·have:=h.2.1 i h1;omega
  ·subst h1;exact⟨hi,e2⟩
  ·have:=uV hs h1 hi
   have:=h.2.2 k (ak _) (by omega);omega
 ·rintro ⟨h1,h2⟩
  rw[<-h2];simp[List.getD,h1]
theorem Pt {l:List Int}{x:Int}:∀ {k:Nat},(∀i,i<k->l.getD i 0<=x)->best l x (k+1 - 1)=if k=0 then 0 else l.getD (k - 1) 0
 | 0,_=>rfl
 | k+1,h=>by
   show best l x (k+1)=_;rw[best,ay (h k (bJ _))];simp
theorem za {l:List Int}{x:Int}{k:Nat}:∀d,(∀i,k<=i->i<k+d->x<l.getD i 0)->best l x (k+d)=best l x k
 | 0,_=>rfl
 | d+1,h=>by
   rw[show k+(d+1)=(k+d)+1 from rfl,best,au (by have:=h (k+d) (by omega) (by omega);omega)];exact za d fun i h1 h2=>h i h1 (by omega)
theorem B7 {l:List Int}(hs:l.Pairwise (· < ·)){x:Int}{k:Nat}(hk:k<l.length)(e:l.getD k 0=x):best l x l.length=x:=by
 have h1:best l x (k+1)=x:=by rw[best,ay (by omega),e]
 have h2:=za (l:=l) (x:=x) (k:=k+1) (l.length - (k+1)) (fun i h3 h4=>by
  have:=uV hs (show k<i by omega) (by omega);omega)
 rw[show k+1+(l.length - (k+1))=l.length by omega]at h2;rw[h2,h1]
theorem B8 {l:List Int}{x:Int}{k:Nat}(h:Cut l x k)(hne:∀i,k<=i->i<l.length->l.getD i 0≠x):best l x l.length=if k=0 then 0 else l.getD (k - 1) 0:=by
 have h2:=za (l:=l) (x:=x) (k:=k) (l.length - k) (fun i h3 h4=>by
  have:=h.2.2 i h3 (by omega)
  have:=hne i h3 (by omega)
  omega)
 rw[show k+(l.length - k)=l.length by have:=h.1;omega]at h2;rw[h2];exact Pt (k:=k) fun i hi=>by have:=h.2.1 i hi;omega
def o8 (l:List Int)(x:Int)(up:Bool)(k:Nat):Int:=if l.contains x || up then l.getD k 0 else l.getD (k - 1) 0
structure jf (l:List Int)(z:Int):Prop where
 sorted:l.Pairwise (· < ·)
 head:l[0]?=some 0
 last:l[l.length - 1]?=some z
theorem lP {s:ByteArray}{n:Nat}(h:gJ.Ends s n):jf (bnd s n) ((s.size:Nat):Int):=⟨Jb h,Pp s n,Pq h⟩
theorem jf.Pu {l:List Int}{z:Int}(h:jf l z):l.getD 0 0=0:=by rw[List.getD,h.head];rfl
theorem jf.len {l:List Int}{z:Int}(h:jf l z):0<l.length:=by
 have:=h.head;cases l with
 | nil=>cases this
 | cons _ _=>exact Nat.succ_pos _
theorem jf.Fi {l:List Int}{z x:Int}{k:Nat}(h:jf l z)(hc:Cut l x k)(hx:x<=z):k<l.length:=by
 rcases aA hc.1 with h1 | h1
 ·exact h1
 ·have h0:=h.len
  have h2:=hc.2.1 (l.length - 1) (by omega);rw[List.getD,h.last]at h2;simp only[dB]at h2;omega
theorem jf.Fj {l:List Int}{z x:Int}{k:Nat}(h:jf l z)(hc:Cut l x k)(hx:0<=x)(hn:l.contains x=false):0<k:=by
 rcases aS k with h1 | h1
 ·subst h1
  have h2:=hc.2.2 0 (ak _) h.len;have h3:=h.Pu;have:l.contains x=true:=(contains_iff h.sorted hc).2 ⟨h.len,by omega⟩;rw[hn]at this;cases this
 ·exact h1
theorem El {l:List Int}{x:Int}{k:Nat}(hn:l.contains x=false):∀i,k<=i->i<l.length->l.getD i 0≠x:=fun i _ h2 e=>by
 have:l.contains x=true:=by
  rw[dN,<-e];simp[List.getD,h2]
 rw[hn]at this;cases this
theorem rK {l:List Int}{z x:Int}{k:Nat}(h:jf l z)(hc:Cut l x k)(hx:0<=x):best l x l.length=o8 l x false k:=by
 unfold o8;rw[Bool.or_false];cases hn:l.contains x
 ·rw[B8 hc (El hn),au (by have:=h.Fj hc hx hn;omega)]
  rfl
 ·obtain⟨h1,h2⟩:=(contains_iff h.sorted hc).1 hn
  rw[B7 h.sorted h1 h2,ay rfl,h2]
theorem zb {l:List Int}{z x:Int}{k:Nat}(h:jf l z)(hc:Cut l x k)(hx:0<=x)(hb:best l x l.length=x):o8 l x true k=x:=by
 unfold o8;rw[Bool.or_true,ay rfl];cases hn:l.contains x
 ·have hp:=h.Fj hc hx hn
  rw[B8 hc (El hn),au (by omega)]at hb;have:=hc.2.1 (k - 1) (by omega);omega
 ·exact((contains_iff h.sorted hc).1 hn).2
theorem A4 {l:List Int}{x:Int}{k:Nat}:o8 l x true k=l.getD k 0:=by
 unfold o8;rw[Bool.or_true,ay rfl]
end Go.Proofs.YtnakejhohdbfdaaGreatDoor.uS

import Derived.Test.YtnakejhohdbfdacGreatDoorMah
set_option maxHeartbeats 4000000
set_option maxRecDepth 100000
namespace Go.Proofs.YtnakejhohdbfdacGreatDoor.Cls.Wr
open Go.RowKit Dec BA pS Lay j9 Go.Shelf
attribute [local go_sem] gy
theorem zZ (m n b0 b1 b2 b3 c1 c2 c3:Nat)(h1:1<=m)(hmn:m<=n)(hw:(Lib.decodeN n b0 b1 b2 b3).2<=m)(e1:1<m->c1=b1)(e2:2<m->c2=b2)(e3:3<m->c3=b3) :
 Lib.decodeN m b0 c1 c2 c3=Lib.decodeN n b0 b1 b2 b3:=by
 rcases(show m=1\/m=2\/m=3\/4<=m by omega)with rfl | rfl | rfl | h4
 ·clear e1 e2 e3
  revert hw;unfold Lib.decodeN
  repeat' split
  all_goals (intro hw;first | rfl | (exfalso;omega) | (simp at hw) | omega)
 ·obtain rfl:=e1 (by omega)
  clear e1 e2 e3;revert hw;unfold Lib.decodeN
  repeat' split
  all_goals (intro hw;first | rfl | (exfalso;omega) | (simp at hw) | omega)
 ·obtain rfl:=e1 (by omega)
  obtain rfl:=e2 (by omega);clear e1 e2 e3;revert hw;unfold Lib.decodeN
  repeat' split
  all_goals (intro hw;first | rfl | (exfalso;omega) | (simp at hw) | omega)
 ·obtain rfl:=e1 (by omega)
  obtain rfl:=e2 (by omega);obtain rfl:=e3 (by omega);clear e1 e2 e3 hw;unfold Lib.decodeN
  repeat' split
  all_goals first | rfl | (exfalso;omega) | omega
theorem rJ (s:ByteArray)(p q:Nat)(hq:q<=s.size):(s.extract p q).size=q - p:=by
 rw[ByteArray.size_extract];omega
theorem qD (s:ByteArray)(p q j:Nat)(hj:p+j<q):(s.extract p q).get! j=s.get! (p+j):=by
 rw[<-Lib.getD_get!',<-Lib.getD_get!',Lib.extract_data];simp only[List.getD,d_,dG];rw[aE (by omega)]
theorem IM (s:ByteArray)(p q:Nat)(hp:p<q)(hq:q<=s.size)(hw:p+(Utf8.decode s p).2<=q):Utf8.decode (s.extract p q) 0=Utf8.decode s p:=by
 rw[Lib.decode_at]at hw ⊢;rw[Lib.decode_at s p,rJ s p q hq,qD s p q 0 (by omega),dM,dL,dL,dL,e_];refine zZ (q - p) (s.size - p) _ _ _ _ _ _ _ (by omega) (by omega) (by omega) (fun h=>?_) (fun h=>?_) (fun h=>?_)
 ·rw[qD s p q 1 (by omega)]
 ·rw[qD s p q 2 (by omega)]
 ·rw[qD s p q 3 (by omega)]
def kc (s:ByteArray)(n i:Nat):Int:=jg.look jg.iY (rune s (iP (jd s n) i))
theorem mO {s:ByteArray}{n:Nat}(h:Dec.Ends s n):(bnd s n).length=cn s n+1:=by
 have:=(jA s n).2.1;rw[xI h,cP];unfold cn;omega
theorem xM {s:ByteArray}{n i:Nat}(h:Dec.Ends s n)(hi:i<=cn s n):(bnd s n).getD i 0=((pos s (iP (jd s n) i):Nat):Int):=by
 have hl:=(jA s n).2.1;have hk:i<(jd s n).length:=by unfold cn at hi;omega
 rw[xI h,List.getD,cA,iP,aA hk];rfl
theorem Kn {s:ByteArray}{n i:Nat}(hi:i<cn s n):iP (jd s n) i<iP (jd s n) (i+1):=qN (lI s n) (bP _) (by unfold cn at hi;omega)
theorem Ga {s:ByteArray}{n i:Nat}(hi:i<=cn s n):iP (jd s n) i<=n:=by
 rcases aH hi with h | h
 ·have:=qN (lI s n) h (by have:=(jA s n).2.1;unfold cn;omega)
  rw[lE]at this;omega
 ·rw[h,lE];exact au _
theorem tS (s:ByteArray){a b:Nat}(h:a<=b):pos s a<=pos s b:=by
 rcases aH h with h1 | h1
 ·exact b7 (kR s a b h1)
 ·rw[h1];exact au _
theorem vG {s:ByteArray}{n i:Nat}(h:Dec.Ends s n)(hi:i<cn s n):Lib.decodeGo (s.extract (pos s (iP (jd s n) i)) (pos s (iP (jd s n) (i+1))))=Utf8.decode s (pos s (iP (jd s n) i)):=by
 have h1:=Kn hi;have h2:=Ga (s:=s) (n:=n) (i:=i+1) hi;have h3:=tS s h2;have h4:=tS s (show iP (jd s n) i+1<=iP (jd s n) (i+1)from h1);have h5:=mI s (iP (jd s n) i);have h0:=h.1;have hw:pos s (iP (jd s n) i)+(Utf8.decode s (pos s (iP (jd s n) i))).2=pos s (iP (jd s n) i+1):=rfl;unfold Lib.decodeGo;rw[ay (by rw[rJ _ _ _ (by omega)];omega),IM s _ _ (by omega) (by omega) (by omega)]
theorem Ko (s:ByteArray){a b:Nat}(h:pos s a=pos s b):a=b:=by
 rcases b8 a b with h1 | h1 | h1
 ·have:=kR s _ _ h1;omega
 ·exact h1
 ·have:=kR s _ _ h1;omega
theorem LU {s:ByteArray}{n i:Nat}(h:Dec.Ends s n)(hi:i<=cn s n):(iS (bnd s n))[i]?=some (.int .i64 ((pos s (iP (jd s n) i):Nat):Int)):=by
 rw[<-xM h hi,iS,cA,List.getD,aA (show i<(bnd s n).length by rw[mO h];omega)];rfl
theorem Dy (s:ByteArray)(p q j:Nat)(hp:p+j<q)(hq:q<=s.size)(hw:p+j+(Utf8.decode s (p+j)).2<=q):Utf8.decode (s.extract p q) j=Utf8.decode s (p+j):=by
 rw[Lib.decode_at]at hw ⊢;rw[Lib.decode_at s (p+j),rJ s p q hq,qD s p q j (by omega)];refine zZ (q - p - j) (s.size - (p+j)) _ _ _ _ _ _ _ (by omega) (by omega) (by omega) (fun h=>?_) (fun h=>?_) (fun h=>?_)
 ·rw[qD s p q (j+1) (by omega),dQ]
 ·rw[qD s p q (j+2) (by omega),dQ]
 ·rw[qD s p q (j+3) (by omega),dQ]
theorem uI (s:ByteArray){a b:Nat}(hb:pos s b<=s.size):∀j,a+j<=b->pos (s.extract (pos s a) (pos s b)) j+pos s a=pos s (a+j)
 | 0,_=>by simp[pos]
 | j+1,h=>by
   have ih:=uI s (a:=a) hb j (by omega);have h1:=tS s (show a+j+1<=b by omega);have h2:=mI s (a+j);have hw:pos s (a+j)+(Utf8.decode s (pos s (a+j))).2=pos s (a+j+1):=rfl;rw[show pos (s.extract (pos s a) (pos s b)) (j+1)=pos (s.extract (pos s a) (pos s b)) j+(Utf8.decode (s.extract (pos s a) (pos s b)) (pos (s.extract (pos s a) (pos s b)) j)).2 from rfl];rw[Dy s _ _ _ (by omega) hb (by rw[dR (pos s a),ih];omega),dR (pos s a),ih];rw[show a+(j+1)=a+j+1 from rfl,<-hw];omega
theorem mP {s:ByteArray}{n a b:Nat}(h:Dec.Ends s n)(hab:a<=b)(hb:b<=n):Lib.runeCount (s.extract (pos s a) (pos s b))=b - a:=by
 have hq:pos s b<=s.size:=by rw[<-h.1];exact tS s hb
 refine Ch ⟨?_,fun j hj=>?_⟩
 ·have:=uI s (a:=a) hq (b - a) (by omega)
  rw[rJ _ _ _ hq,show a+(b - a)=b by omega]at *;omega
 ·have h1:=uI s (a:=a) hq j (by omega)
  have h2:=kR s (a+j) b (by omega);rw[rJ _ _ _ hq];omega
def bw (x:Int):Int:=if x<0 then 0 else if 1073741824<x then 1073741824 else x
theorem O4 (x:Int):0<=bw x/\bw x<=1073741824:=by unfold bw;split <;> (try split) <;> omega
def sw (W:List Int)(a:Nat):Nat->Int
 | 0=>0
 | m+1=>sw W a m+bw (nth W (a+m))
theorem VY (W:List Int)(a:Nat):∀m,0<=sw W a m/\sw W a m<=(m:Int) * 1073741824
 | 0=>by simp[sw]
 | m+1=>by
   have ih:=VY W a m;have:=O4 (nth W (a+m));rw[sw];omega
theorem Kq (W:List Int)(a m:Nat):∀d,sw W a m<=sw W a (m+d)
 | 0=>eD _
 | d+1=>by
   have ih:=Kq W a m d;have:=O4 (nth W (a+(m+d)));rw[<-dQ,sw];omega
def cw (s:ByteArray)(n:Nat)(W:List Int)(i:Nat):Int:=sw W (iP (jd s n) i) (iP (jd s n) (i+1) - iP (jd s n) i)
def sm (X:Nat->Int)(f:Nat):Nat->Int
 | 0=>0
 | d+1=>sm X f d+X (f+d)
def D1 (R x:Int):Int:=if R<x then -1 else R - x
theorem Tr {R x y:Int}(hy:0<=y):D1 (D1 R x) y=D1 R (x+y):=by
 unfold D1;split <;> split <;> (try split) <;> omega
def lb (B:Nat->Bool)(f:Nat):Nat->Nat
 | 0=>0
 | d+1=>if B (f+d)then d+1 else lb B f d
theorem O5 (B:Nat->Bool)(f:Nat):∀d,lb B f d<=d
 | 0=>au _
 | d+1=>by
   have:=O5 B f d;rw[lb];split <;> omega
def VZ (B:Nat->Bool)(X:Nat->Int)(R:Int)(f d:Nat):Bool:=decide (0<d) && !B (f+d) && decide (R<sm X f (d+1))
def Kr (B:Nat->Bool)(X:Nat->Int)(R:Int)(c f:Nat):Nat->Nat->Nat
 | 0,d=>d
 | k+1,d=>if f+d<c then(if VZ B X R f d then(if 0<lb B f d then lb B f d else d)else Kr B X R c f k (d+1))else d
def IP (B:Nat->Bool)(X:Nat->Int)(R:Int)(c f:Nat):Nat:=Kr B X R c f (c - f) 0
theorem Gb {B:Nat->Bool}{X:Nat->Int}{R:Int}{c f d:Nat}(h:f+d<c)(hs:VZ B X R f d=false):Kr B X R c f (c - f - d) d=Kr B X R c f (c - f - (d+1)) (d+1):=by
 rw[show c - f - d=(c - f - (d+1))+1 by omega,Kr,aE h,ay (by rw[hs];exact aG)]
theorem O6 {B:Nat->Bool}{X:Nat->Int}{R:Int}{c f d:Nat}(h:f+d<c)(hs:VZ B X R f d=true):Kr B X R c f (c - f - d) d=if 0<lb B f d then lb B f d else d:=by
 rw[show c - f - d=(c - f - (d+1))+1 by omega,Kr,aE h,aE hs]
theorem Ts {B:Nat->Bool}{X:Nat->Int}{R:Int}{c f d:Nat}(h:f+d=c):Kr B X R c f (c - f - d) d=d:=by
 rw[show c - f - d=0 by omega,Kr]
theorem O7 {B:Nat->Bool}{X:Nat->Int}{R:Int}{c f:Nat}:∀k d,k=c - f - d->f+d<=c->0<d->0<Kr B X R c f k d/\f+Kr B X R c f k d<=c
 | 0,d,_,h,h0=>by rw[Kr];omega
 | k+1,d,hk,h,h0=>by
   have hl:=O5 B f d;rw[Kr];split
   ·split
    ·split <;> omega
    ·exact O7 k (d+1) (by omega) (by omega) (by omega)
   ·omega
theorem O8 {B:Nat->Bool}{X:Nat->Int}{R:Int}{c f:Nat}(h:f<c):0<IP B X R c f/\f+IP B X R c f<=c:=by
 unfold IP;have hs:VZ B X R f 0=false:=by simp[VZ]
 have e:=Gb (B:=B) (X:=X) (R:=R) (c:=c) (f:=f) (d:=0) (by omega) hs;rw[e_]at e;rw[e];exact O7 _ _ rfl (by omega) (by omega)
def brk (o:Nat->Nat)(c f:Nat):List Nat:=if _h:f<c/\0<o f/\f+o f<c then(f+o f) :: brk o c (f+o f)else []
termination_by c - f
decreasing_by omega
theorem Gc {o:Nat->Nat}{c f:Nat}(h:0<o f)(h2:f+o f<c):brk o c f=(f+o f) :: brk o c (f+o f):=by
 rw[brk,dif_pos ⟨by omega,h,h2⟩]
theorem tT {o:Nat->Nat}{c f:Nat}(h:c<=f+o f):brk o c f=[]:=by
 rw[brk,dif_neg (fun h'=>by omega)]
theorem EQ (o:Nat->Nat)(c:Nat):∀k f,c - f<=k->(brk o c f).length<=k
 | 0,f,h=>by rw[brk,dif_neg (fun h'=>by omega)];exact au _
 | k+1,f,h=>by
   rw[brk];split
   ·rename_i h'
    have:=EQ o c k (f+o f) (by omega);rw[bg];omega
   ·exact aN _
def blk (s:ByteArray)(n i:Nat):Bool:=kc s n i == 12
def Gd (s:ByteArray)(n:Nat)(W:List Int)(R:Int):List Int:=(brk (IP (blk s n) (cw s n W) R (cn s n)) (cn s n) 0).map fun i=>((pos s (iP (jd s n) i):Nat):Int)
theorem aaj {s:ByteArray}{n:Nat}{W:List Int}(hn:n<=4096)(i:Nat)(hi:i<cn s n):0<=cw s n W i/\cw s n W i<=4398046511104:=by
 have h1:=VY W (iP (jd s n) i) (iP (jd s n) (i+1) - iP (jd s n) i);have h2:=Ga (s:=s) (n:=n) (i:=i+1) hi;unfold cw;omega
theorem V0 {X:Nat->Int}{c:Nat}(hX:∀i,i<c->0<=X i/\X i<=4398046511104)(f:Nat):∀d,f+d<=c->0<=sm X f d/\sm X f d<=(d:Int) * 4398046511104
 | 0,_=>by simp[sm]
 | d+1,h=>by
   have ih:=V0 hX f d (by omega);have:=hX (f+d) (by omega);rw[sm];omega
def LW (s:ByteArray)(n:Nat)(l:List Nat):List Int:=l.map fun i=>((pos s (iP (jd s n) i):Nat):Int)
theorem O9 (s:ByteArray)(n:Nat)(l:List Nat)(t:Nat):LW s n (l++[t])=LW s n l++[((pos s (iP (jd s n) t):Nat):Int)]:=by simp[LW]
end Go.Proofs.YtnakejhohdbfdacGreatDoor.Cls.Wr
namespace Go.Proofs.YtnakejhohdbfdacGreatDoor.Cls.Wr
open Go.RowKit Dec BA pS Lay j9
theorem O_ {o:Nat->Nat}{c:Nat}(ho:∀f,f<c->0<o f/\f+o f<=c):∀(N f:Nat),c - f<=N->f<=c->∀k,k<=(brk o c f).length->(k<(brk o c f).length->iP (f :: brk o c f) k<c/\iP (brk o c f) k=iP (f :: brk o c f) k+o (iP (f :: brk o c f) k)/\iP (brk o c f) k<c)/\(k=(brk o c f).length->iP (f :: brk o c f) k<=c/\(iP (f :: brk o c f) k<c->iP (f :: brk o c f) k+o (iP (f :: brk o c f) k)=c))
 | 0,f,hN,hf,k,hk=>by
   obtain rfl:f=c:=by omega
   rw[tT (by omega)]at hk ⊢;obtain rfl:k=0:=by simpa using hk
   exact⟨fun h=>by simp at h,fun _=>⟨au _,fun h=>absurd h (eG _)⟩⟩
 | N+1,f,hN,hf,k,hk=>by
   by_cases h1:f<c
   ·obtain⟨q1,q2⟩:=ho f h1
    by_cases h2:f+o f<c
    ·have ih:=O_ ho N (f+o f) (by omega) (by omega)
     rw[Gc q1 h2]at hk ⊢;cases k with
     | zero=>exact⟨fun _=>⟨h1,rfl,h2⟩,fun h=>by simp at h⟩
     | succ k =>
       have h3:=ih k (by simpa using hk);refine⟨fun h=>?_,fun h=>?_⟩
       ·exact h3.1 (by simpa using h)
       ·exact h3.2 (by simpa using h)
    ·rw[tT (by omega)]at hk ⊢
     obtain rfl:k=0:=by simpa using hk
     exact⟨fun h=>by simp at h,fun _=>⟨hf,fun _=>show f+o f=c by omega⟩⟩
   ·obtain rfl:f=c:=by omega
    rw[tT (by omega)]at hk ⊢;obtain rfl:k=0:=by simpa using hk
    exact⟨fun h=>by simp at h,fun _=>⟨au _,fun h=>absurd h (eG _)⟩⟩
structure adM (s:ByteArray)(n:Nat)(R:Int)(F T m:Nat):Prop where
 ft:F<=T
 tc:T<=cn s n
 mt:F+m<=T
 bl:∀i,F+m<=i->i<T->blk s n i=true
 nb:∀y,F+m=y+1->F<F+m->blk s n y=false
 ok:m<=1\/((iP (jd s n) (F+m) - iP (jd s n) F:Nat):Int)<=R
def cnt (s:ByteArray)(n F m j:Nat):Nat:=iP (jd s n) (F+m) - iP (jd s n) (max j F)
def B5 (F m j:Nat):Bool:=decide (F+m<=max j F)
end Go.Proofs.YtnakejhohdbfdacGreatDoor.Cls.Wr

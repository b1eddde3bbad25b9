import Derived.Test.YtnakejhohdbfdaaGreatDoorVac
import Derived.Test.YtnakejhohdbfdaaGreatDoorVaf
namespace Go.Proofs.YtnakejhohdbfdaaGreatDoor.Lay
open Go gJ uS jN
def A5 (s:ByteArray):Nat->Bool
 | 0=>true
 | k+1=>!jn s (k+1)
def iU (s:ByteArray):Nat->List Nat
 | 0=>[]
 | k+1=>if A5 s k then iU s k++[k]else iU s k
def jw (s:ByteArray)(n:Nat):List Nat:=if n=0 then [0]else iU s n++[n]
theorem mS {s:ByteArray}{k:Nat}(h:A5 s k=true):iU s (k+1)=iU s k++[k]:=by rw[iU,ay h]
theorem oM {s:ByteArray}{k:Nat}(h:A5 s k=false):iU s (k+1)=iU s k:=by rw[iU,au (by rw[h];exact aE)]
theorem Pv (s:ByteArray):iU s 1=[0]:=rfl
theorem sQ (s:ByteArray):∀k,∀x∈iU s k,x<k
 | 0,x,h=>by cases h
 | k+1,x,h=>by
   cases hb:A5 s k
   ·rw[oM hb]at h;have:=sQ s k x h;omega
   ·rw[mS hb,bD,aj]at h
    rcases h with h | h
    ·have:=sQ s k x h;omega
    ·omega
theorem B9 (s:ByteArray):∀k,(iU s k).length<=k/\(0<k->0<(iU s k).length)
 | 0=>⟨ak _,fun h=>absurd h (Nat.lt_irrefl _)⟩
 | k+1=>by
   have ih:=B9 s k;cases hb:A5 s k
   ·rw[oM hb];refine⟨by omega,fun _=>ih.2 ?_⟩;cases k with
    | zero=>cases hb
    | succ k=>omega
   ·rw[mS hb,aG,bH];omega
theorem qL (s:ByteArray):∀k,(iU s k).Pairwise (· < ·)
 | 0=>List.Pairwise.nil
 | k+1=>by
   cases hb:A5 s k
   ·rw[oM hb];exact qL s k
   ·rw[mS hb,dI]
    exact⟨qL s k,by simp,fun a ha b hb=>by rw[aj]at hb;rw[hb];exact sQ s k a ha⟩
theorem o9 (s:ByteArray)(k:Nat):∀d,iU s k <+: iU s (k+d)
 | 0=>List.prefix_refl _
 | d+1=>by
   refine(o9 s k d).trans ?_;rw[<-eC,iU];split
   ·exact List.prefix_append _ _
   ·exact List.prefix_refl _
theorem B_ (s:ByteArray):∀k,kF s (k+1)=(iU s (k+1)).map (fun j=>((pos s j:Nat):Int))
 | 0=>by rw[lO (k:=0) rfl];rfl
 | k+1=>by
   cases h:jn s (k+1)
   ·rw[p8 h,mS (by rw[A5,h];rfl),B_ s k,cJ];rfl
   ·rw[lO h,oM (by rw[A5,h];rfl),B_ s k]
theorem Fl {s:ByteArray}{n:Nat}(h:gJ.Ends s n):bnd s n=(jw s n).map (fun j=>((pos s j:Nat):Int)):=by
 unfold bnd jw;cases n with
 | zero =>
   have h0:=h.1;simp only[pos]at h0;rw[au (by omega),ay rfl];rfl
 | succ m =>
   have:=h.2 0 (Nat.succ_pos _);rw[ay (by omega),au (Nat.succ_ne_zero _),B_,cJ,<-h.1];rfl
theorem jk (s:ByteArray)(n:Nat):(jw s n).length<=n+1/\0<(jw s n).length/\(0<n->1<(jw s n).length):=by
 have h:=B9 s n;unfold jw;split
 ·rename_i e;subst e;simp
 ·rw[aG,bH];omega
theorem kR (s:ByteArray)(n:Nat):(jw s n).Pairwise (· < ·):=by
 unfold jw;split
 ·simp
 ·rw[dI]
  exact⟨qL s n,by simp,fun a ha b hb=>by rw[aj]at hb;rw[hb];exact sQ s n a ha⟩
theorem qT {l:List Nat}(h:l.Pairwise (· < ·)){i j:Nat}(hij:i<j)(hj:j<l.length):fX l i<fX l j:=by
 rw[bn]at h;have:=h i j (by omega) hj hij;simpa[fX,hj,show i<l.length by omega] using this
def cn (s:ByteArray)(n:Nat):Nat:=(jw s n).length - 1
theorem Ca (s:ByteArray)(n:Nat):fX (jw s n) 0=0:=by
 unfold jw;split
 ·rfl
 ·rename_i hn
  obtain⟨m,rfl⟩:=Nat.exists_eq_succ_of_ne_zero hn;have hp:=o9 s 1 m;rw[Pv,eu 1 m]at hp;obtain⟨t,ht⟩:=hp;show fX (iU s (m+1)++[m+1]) 0=0;rw[<-ht];rfl
theorem kL (s:ByteArray)(n:Nat):fX (jw s n) (cn s n)=n:=by
 unfold cn jw;split
 ·rename_i e;subst e;rfl
 ·rw[aG,bH,bX,fX,aI (ak _)];simp
theorem Cb {s:ByteArray}{n i:Nat}(hn:0<n)(hi:i<(iU s n).length):fX (jw s n) i=fX (iU s n) i:=by
 unfold jw;rw[au (by omega),fX,fX,aJ hi]
theorem oN {s:ByteArray}{n:Nat}(hn:0<n):cn s n=(iU s n).length:=by
 unfold cn jw;rw[au (by omega),aG,bH,bX]
theorem Jc {a b:List Nat}(h:a <+: b){i:Nat}(hi:i<a.length):fX b i=fX a i:=by
 obtain⟨t,rfl⟩:=h;rw[fX,fX,aJ hi]
theorem Gy {s:ByteArray}{n i:Nat}(hi:i<n):(A5 s i=true->fX (jw s n) (iU s i).length=i)/\(A5 s i=false->i<fX (jw s n) (iU s i).length):=by
 have hn:0<n:=by omega
 constructor
 ·intro hb
  have hp:=o9 s (i+1) (n - (i+1));rw[show i+1+(n - (i+1))=n by omega]at hp;have hl:(iU s i).length<(iU s (i+1)).length:=by rw[mS hb,aG,bH];omega
  rw[Cb hn (bQ hl hp.length_le),Jc hp hl,mS hb,fX,aI (ak _)];simp
 ·intro hb
  have hp:=o9 s (i+1) (n - (i+1));rw[show i+1+(n - (i+1))=n by omega,oM hb]at hp;obtain⟨t,ht⟩:=hp;have h1:jw s n=iU s i++(t++[n]):=by rw[jw,au (by omega),<-ht,dx]
  have hs:=qL s n;rw[h1,fX,aI (ak _),bY];cases t with
  | nil=>exact hi
  | cons y t =>
    show i<y;have hy:y∈iU s n:=by rw[<-ht];simp
    have hyi:¬y<i+1:=by
     intro hlt
     -- what is below i + 1 lies in the prefix
     have:∀d,∀z∈iU s (i+1+d),z∈iU s (i+1)\/i+1<=z:=by
      intro d
      induction d with
      | zero=>intro z hz;exact .inl hz
      | succ d ih =>
        intro z hz;rw[<-eC,iU]at hz;split at hz
        ·rw[bD,aj]at hz
         rcases hz with hz | hz
         ·exact ih z hz
         ·omega
        ·exact ih z hz
     have h2:=this (n - (i+1)) y (by rw[show i+1+(n - (i+1))=n by omega];exact hy)
     rcases h2 with h2 | h2
     ·rw[oM hb]at h2
      rw[<-ht,dI]at hs;have:=hs.2.2 y h2 y (by simp);omega
     ·omega
    omega
def Jd (W:List Int)(a:Nat):Nat->Int
 | 0=>0
 | d+1=>Jd W a d+nth W (a+d)
def wid (W:List Int)(a b:Nat):Int:=Jd W a (b - a)
theorem Gz (W:List Int)(a:Nat):wid W a a=0:=by rw[wid,bY];rfl
theorem Cc (W:List Int){a b:Nat}(h:a<=b):wid W a (b+1)=wid W a b+nth W b:=by
 rw[wid,wid,show b+1 - a=(b - a)+1 by omega,Jd,show a+(b - a)=b by omega]
theorem pS (W:List Int)(M:Int)(h:∀i,0<=nth W i/\nth W i<=M)(a:Nat):∀d,0<=Jd W a d/\Jd W a d<=d * M
 | 0=>by simp[Jd]
 | d+1=>by
   have ih:=pS W M h a d;have:=h (a+d);rw[Jd];refine⟨by omega,?_⟩;have e:((d+1:Nat):Int) * M=d * M+M:=by rw[dL,Int.add_mul];simp
   omega
def wl (s:ByteArray)(W:List Int):Nat->List Int
 | 0=>[]
 | k+1=>if A5 s k then wl s W k++[nth W k]else(wl s W k).set ((wl s W k).length - 1) (nth (wl s W k) ((wl s W k).length - 1)+nth W k)
theorem t_ (s:ByteArray)(W:List Int):∀k,(wl s W k).length=(iU s k).length
 | 0=>rfl
 | k+1=>by
   cases hb:A5 s k
   ·rw[wl,au (by rw[hb];exact aE),aY,t_ s W k,oM hb]
   ·rw[wl,ay hb,aG,t_ s W k,mS hb];simp
theorem KJ (s:ByteArray)(W:List Int):∀k,∀j,j<(iU s k).length->nth (wl s W k) j=if j+1<(iU s k).length then wid W (fX (iU s k) j) (fX (iU s k) (j+1))else wid W (fX (iU s k) j) k
 | 0,j,h=>by cases h
 | k+1,j,h=>by
   have hl:=t_ s W k;cases hb:A5 s k
   ·rw[oM hb]at h ⊢
    have ih:=KJ s W k j h;rw[wl,au (by rw[hb];exact aE)];by_cases e:j+1<(iU s k).length
    ·rw[ay e]at ih ⊢
     rw[<-ih,nth,aU (by omega)]
    ·rw[au e]at ih ⊢
     have hj:(wl s W k).length - 1=j:=by omega
     rw[hj,nth,aQ (by omega),ih,dB];have hx:fX (iU s k) j<k:=sQ s k _ (by rw[fX,az h];exact aT _);rw[Cc W (by omega)]
   ·rw[wl,ay hb]
    rw[mS hb]at h ⊢;rw[aG,bH]at h ⊢;by_cases e:j<(iU s k).length
    ·have ih:=KJ s W k j e
     rw[nth,aJ (by omega),ay (by omega),show fX (iU s k++[k]) j=fX (iU s k) j by rw[fX,fX,aJ e]];rw[nth]at ih;rw[ih];split
     ·rename_i e2;rw[show fX (iU s k++[k]) (j+1)=fX (iU s k) (j+1) by rw[fX,fX,aJ e2]]
     ·rw[show fX (iU s k++[k]) (j+1)=k by rw[fX,aI (by omega),show j+1 - (iU s k).length=0 by omega];rfl]
    ·have hj:j=(iU s k).length:=by omega
     subst hj;rw[nth,aI (by omega),hl,bY,au (by omega),show fX (iU s k++[k]) (iU s k).length=k by rw[fX,aI (ak _),bY];rfl,Cc W (ak _),Gz];simp
def cw (s:ByteArray)(n:Nat)(W:List Int)(k:Nat):Int:=wid W (fX (jw s n) k) (fX (jw s n) (k+1))
theorem Wu {s:ByteArray}{n:Nat}(hn:0<n)(W:List Int){j:Nat}(hj:j<cn s n):nth (wl s W n) j=cw s n W j:=by
 rw[oN hn]at hj;rw[KJ s W n j hj,cw,Cb hn hj];split
 ·rename_i e;rw[Cb hn e]
 ·have e:j+1=cn s n:=by rw[oN hn];omega
  rw[e,kL]
def trail (c:Int):Bool:=c == 12 || j6 c || c == 22 || gone c
def stops (c:Int):Bool:=c == 11 || c == 10
def Xp (K:List Int)(ed:Nat->Bool):Nat->Nat->Bool
 | 0,_=>false
 | f+1,i=>stops (nth K i) || trail (nth K i) && (Xp K ed f (i+1) || ed (i+1))
def mg (K:List Int)(ed:Nat->Bool)(i:Nat):Bool:=Xp K ed (K.length - i) i
theorem Cd (K:List Int)(ed:Nat->Bool){i:Nat}(h:i<K.length):mg K ed i=(stops (nth K i) || trail (nth K i) && (mg K ed (i+1) || ed (i+1))):=by
 rw[mg,mg,show K.length - i=(K.length - (i+1))+1 by omega,Xp]
theorem L4 (K:List Int)(ed:Nat->Bool):mg K ed K.length=false:=by rw[mg,bY];rfl
def Tf (K LV:List Int)(base:Int)(ed:Nat->Bool)(i:Nat):Int:=if mg K ed i then base else nth LV i
def KK (K:List Int)(tq:Nat):Nat->Nat->Nat
 | 0,j=>j
 | f+1,j=>if j<tq/\trail (nth K j)=true then KK K tq f (j+1)else j
def scan (K:List Int)(tq i:Nat):Nat:=KK K tq (tq - i) i
theorem Em {K:List Int}{tq i:Nat}(h:i<tq)(ht:trail (nth K i)=true):scan K tq i=scan K tq (i+1):=by
 rw[scan,scan,show tq - i=(tq - (i+1))+1 by omega,KK,ay ⟨h,ht⟩]
theorem ze {K:List Int}{tq i:Nat}(ht:trail (nth K i)=false):scan K tq i=i:=by
 rw[scan];cases tq - i with
 | zero=>rfl
 | succ f=>rw[KK,au (fun h=>by rw[ht]at h;cases h.2)]
theorem GA (K:List Int)(tq:Nat):scan K tq tq=tq:=by rw[scan,bY];rfl
theorem GB {c:Int}(h:stops c=true):trail c=false:=by
 unfold stops at h;rw[Bool.or_eq_true]at h
 rcases h with h | h <;> rw[eq_of_beq h] <;> rfl
theorem En (K:List Int)(ed:Nat->Bool)(a b:Nat)(hb:b<=K.length)(he:ed b=true)(hm:∀m,a<m->m<b->ed m=false):∀d i,b - i=d->a<=i->i<b->mg K ed i=(stops (nth K i) || (decide (scan K b i=b) || stops (nth K (scan K b i))))
 | 0,i,h,_,h2=>by omega
 | d+1,i,h,h1,h2=>by
   rw[Cd K ed (by omega)];cases hs:stops (nth K i)
   ·cases ht:trail (nth K i)
    ·rw[ze ht,hs,aK (by omega)];rfl
    ·rw[Em h2 ht]
     by_cases e:i+1=b
     ·rw[e,GA,he];simp
     ·rw[En K ed a b hb he hm d (i+1) (by omega) (by omega) (by omega),hm (i+1) (by omega) (by omega)]
      simp only[Bool.false_or,Bool.true_and,Bool.or_false];cases hs1:stops (nth K (i+1))
      ·simp
      ·rw[ze (GB hs1),hs1];simp
   ·simp
end Go.Proofs.YtnakejhohdbfdaaGreatDoor.Lay

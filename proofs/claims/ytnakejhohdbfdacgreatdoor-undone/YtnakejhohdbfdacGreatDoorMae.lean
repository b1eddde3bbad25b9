import Derived.Test.YtnakejhohdbfdacGreatDoorMac
import Derived.Test.YtnakejhohdbfdacGreatDoorMad
namespace Go.Proofs.YtnakejhohdbfdacGreatDoor.Lay
open Go Dec pS j9
def A0 (s:ByteArray):Nat->Bool
 | 0=>true
 | k+1=>!jn s (k+1)
def jF (s:ByteArray):Nat->List Nat
 | 0=>[]
 | k+1=>if A0 s k then jF s k++[k]else jF s k
def jd (s:ByteArray)(n:Nat):List Nat:=if n=0 then [0]else jF s n++[n]
theorem m7 {s:ByteArray}{k:Nat}(h:A0 s k=true):jF s (k+1)=jF s k++[k]:=by rw[jF,aE h]
theorem oS {s:ByteArray}{k:Nat}(h:A0 s k=false):jF s (k+1)=jF s k:=by rw[jF,ay (by rw[h];exact aG)]
theorem OY (s:ByteArray):jF s 1=[0]:=rfl
theorem qA (s:ByteArray):∀k,∀x∈jF s k,x<k
 | 0,x,h=>by cases h
 | k+1,x,h=>by
   cases hb:A0 s k
   ·rw[oS hb]at h;have:=qA s k x h;omega
   ·rw[m7 hb,a_,ak]at h
    rcases h with h | h
    ·have:=qA s k x h;omega
    ·omega
theorem B_ (s:ByteArray):∀k,(jF s k).length<=k/\(0<k->0<(jF s k).length)
 | 0=>⟨au _,fun h=>absurd h (eG _)⟩
 | k+1=>by
   have ih:=B_ s k;cases hb:A0 s k
   ·rw[oS hb];refine⟨by omega,fun _=>ih.2 ?_⟩;cases k with
    | zero=>cases hb
    | succ k=>omega
   ·rw[m7 hb,aD,bq];omega
theorem qB (s:ByteArray):∀k,(jF s k).Pairwise (· < ·)
 | 0=>List.Pairwise.nil
 | k+1=>by
   cases hb:A0 s k
   ·rw[oS hb];exact qB s k
   ·rw[m7 hb,dI]
    exact⟨qB s k,by simp,fun a ha b hb=>by rw[ak]at hb;rw[hb];exact qA s k a ha⟩
theorem o9 (s:ByteArray)(k:Nat):∀d,jF s k <+: jF s (k+d)
 | 0=>List.prefix_refl _
 | d+1=>by
   refine(o9 s k d).trans ?_;rw[<-dQ,jF];split
   ·exact List.prefix_append _ _
   ·exact List.prefix_refl _
theorem Ca (s:ByteArray):∀k,lS s (k+1)=(jF s (k+1)).map (fun j=>((pos s j:Nat):Int))
 | 0=>by rw[mN (k:=0) rfl];rfl
 | k+1=>by
   cases h:jn s (k+1)
   ·rw[qS h,m7 (by rw[A0,h];rfl),Ca s k,dz];rfl
   ·rw[mN h,oS (by rw[A0,h];rfl),Ca s k]
theorem xI {s:ByteArray}{n:Nat}(h:Dec.Ends s n):bnd s n=(jd s n).map (fun j=>((pos s j:Nat):Int)):=by
 unfold bnd jd;cases n with
 | zero =>
   have h0:=h.1;simp only[pos]at h0;rw[ay (by omega),aE rfl];rfl
 | succ m =>
   have:=h.2 0 (Nat.succ_pos _);rw[aE (by omega),ay (Nat.succ_ne_zero _),Ca,dz,<-h.1];rfl
theorem jA (s:ByteArray)(n:Nat):(jd s n).length<=n+1/\0<(jd s n).length/\(0<n->1<(jd s n).length):=by
 have h:=B_ s n;unfold jd;split
 ·rename_i e;subst e;simp
 ·rw[aD,bq];omega
theorem lI (s:ByteArray)(n:Nat):(jd s n).Pairwise (· < ·):=by
 unfold jd;split
 ·simp
 ·rw[dI]
  exact⟨qB s n,by simp,fun a ha b hb=>by rw[ak]at hb;rw[hb];exact qA s n a ha⟩
theorem qN {l:List Nat}(h:l.Pairwise (· < ·)){i j:Nat}(hij:i<j)(hj:j<l.length):iP l i<iP l j:=by
 rw[bE]at h;have:=h i j (by omega) hj hij;simpa[iP,hj,show i<l.length by omega] using this
def cn (s:ByteArray)(n:Nat):Nat:=(jd s n).length - 1
theorem rD (s:ByteArray)(n:Nat):iP (jd s n) 0=0:=by
 unfold jd;split
 ·rfl
 ·rename_i hn
  obtain⟨m,rfl⟩:=Nat.exists_eq_succ_of_ne_zero hn;have hp:=o9 s 1 m;rw[OY,dR 1 m]at hp;obtain⟨t,ht⟩:=hp;show iP (jF s (m+1)++[m+1]) 0=0;rw[<-ht];rfl
theorem lE (s:ByteArray)(n:Nat):iP (jd s n) (cn s n)=n:=by
 unfold cn jd;split
 ·rename_i e;subst e;rfl
 ·rw[aD,bq,dx,iP,aI (au _)];simp
theorem Cb {s:ByteArray}{n i:Nat}(hn:0<n)(hi:i<(jF s n).length):iP (jd s n) i=iP (jF s n) i:=by
 unfold jd;rw[ay (by omega),iP,iP,aJ hi]
theorem oU {s:ByteArray}{n:Nat}(hn:0<n):cn s n=(jF s n).length:=by
 unfold cn jd;rw[ay (by omega),aD,bq,dx]
theorem IG {a b:List Nat}(h:a <+: b){i:Nat}(hi:i<a.length):iP b i=iP a i:=by
 obtain⟨t,rfl⟩:=h;rw[iP,iP,aJ hi]
theorem FZ {s:ByteArray}{n i:Nat}(hi:i<n):(A0 s i=true->iP (jd s n) (jF s i).length=i)/\(A0 s i=false->i<iP (jd s n) (jF s i).length):=by
 have hn:0<n:=by omega
 constructor
 ·intro hb
  have hp:=o9 s (i+1) (n - (i+1));rw[show i+1+(n - (i+1))=n by omega]at hp;have hl:(jF s i).length<(jF s (i+1)).length:=by rw[m7 hb,aD,bq];omega
  rw[Cb hn (aM hl hp.length_le),IG hp hl,m7 hb,iP,aI (au _)];simp
 ·intro hb
  have hp:=o9 s (i+1) (n - (i+1));rw[show i+1+(n - (i+1))=n by omega,oS hb]at hp;obtain⟨t,ht⟩:=hp;have h1:jd s n=jF s i++(t++[n]):=by rw[jd,ay (by omega),<-ht,dF]
  have hs:=qB s n;rw[h1,iP,aI (au _),dm];cases t with
  | nil=>exact hi
  | cons y t =>
    show i<y;have hy:y∈jF s n:=by rw[<-ht];simp
    have hyi:¬y<i+1:=by
     intro hlt
     -- what is below i + 1 lies in the prefix
     have:∀d,∀z∈jF s (i+1+d),z∈jF s (i+1)\/i+1<=z:=by
      intro d
      induction d with
      | zero=>intro z hz;exact .inl hz
      | succ d ih =>
        intro z hz;rw[<-dQ,jF]at hz;split at hz
        ·rw[a_,ak]at hz
         rcases hz with hz | hz
         ·exact ih z hz
         ·omega
        ·exact ih z hz
     have h2:=this (n - (i+1)) y (by rw[show i+1+(n - (i+1))=n by omega];exact hy)
     rcases h2 with h2 | h2
     ·rw[oS hb]at h2
      rw[<-ht,dI]at hs;have:=hs.2.2 y h2 y (by simp);omega
     ·omega
    omega
def II (W:List Int)(a:Nat):Nat->Int
 | 0=>0
 | d+1=>II W a d+nth W (a+d)
def wid (W:List Int)(a b:Nat):Int:=II W a (b - a)
theorem OZ (W:List Int)(a:Nat):wid W a a=0:=by rw[wid,dm];rfl
theorem F0 (W:List Int){a b:Nat}(h:a<=b):wid W a (b+1)=wid W a b+nth W b:=by
 rw[wid,wid,show b+1 - a=(b - a)+1 by omega,II,show a+(b - a)=b by omega]
theorem uO (W:List Int)(M:Int)(h:∀i,0<=nth W i/\nth W i<=M)(a:Nat):∀d,0<=II W a d/\II W a d<=d * M
 | 0=>by simp[II]
 | d+1=>by
   have ih:=uO W M h a d;have:=h (a+d);rw[II];refine⟨by omega,?_⟩;have e:((d+1:Nat):Int) * M=d * M+M:=by rw[eA,Int.add_mul];simp
   omega
def wl (s:ByteArray)(W:List Int):Nat->List Int
 | 0=>[]
 | k+1=>if A0 s k then wl s W k++[nth W k]else(wl s W k).set ((wl s W k).length - 1) (nth (wl s W k) ((wl s W k).length - 1)+nth W k)
theorem tO (s:ByteArray)(W:List Int):∀k,(wl s W k).length=(jF s k).length
 | 0=>rfl
 | k+1=>by
   cases hb:A0 s k
   ·rw[wl,ay (by rw[hb];exact aG),bK,tO s W k,oS hb]
   ·rw[wl,aE hb,aD,tO s W k,m7 hb];simp
theorem Kk (s:ByteArray)(W:List Int):∀k,∀j,j<(jF s k).length->nth (wl s W k) j=if j+1<(jF s k).length then wid W (iP (jF s k) j) (iP (jF s k) (j+1))else wid W (iP (jF s k) j) k
 | 0,j,h=>by cases h
 | k+1,j,h=>by
   have hl:=tO s W k;cases hb:A0 s k
   ·rw[oS hb]at h ⊢
    have ih:=Kk s W k j h;rw[wl,ay (by rw[hb];exact aG)];by_cases e:j+1<(jF s k).length
    ·rw[aE e]at ih ⊢
     rw[<-ih,nth,bJ (by omega)]
    ·rw[ay e]at ih ⊢
     have hj:(wl s W k).length - 1=j:=by omega
     rw[hj,nth,bn (by omega),ih,dZ];have hx:iP (jF s k) j<k:=qA s k _ (by rw[iP,aA h];exact bB _);rw[F0 W (by omega)]
   ·rw[wl,aE hb]
    rw[m7 hb]at h ⊢;rw[aD,bq]at h ⊢;by_cases e:j<(jF s k).length
    ·have ih:=Kk s W k j e
     rw[nth,aJ (by omega),aE (by omega),show iP (jF s k++[k]) j=iP (jF s k) j by rw[iP,iP,aJ e]];rw[nth]at ih;rw[ih];split
     ·rename_i e2;rw[show iP (jF s k++[k]) (j+1)=iP (jF s k) (j+1) by rw[iP,iP,aJ e2]]
     ·rw[show iP (jF s k++[k]) (j+1)=k by rw[iP,aI (by omega),show j+1 - (jF s k).length=0 by omega];rfl]
    ·have hj:j=(jF s k).length:=by omega
     subst hj;rw[nth,aI (by omega),hl,dm,ay (by omega),show iP (jF s k++[k]) (jF s k).length=k by rw[iP,aI (au _),dm];rfl,F0 W (au _),OZ];simp
def cw (s:ByteArray)(n:Nat)(W:List Int)(k:Nat):Int:=wid W (iP (jd s n) k) (iP (jd s n) (k+1))
theorem VV {s:ByteArray}{n:Nat}(hn:0<n)(W:List Int){j:Nat}(hj:j<cn s n):nth (wl s W n) j=cw s n W j:=by
 rw[oU hn]at hj;rw[Kk s W n j hj,cw,Cb hn hj];split
 ·rename_i e;rw[Cb hn e]
 ·have e:j+1=cn s n:=by rw[oU hn];omega
  rw[e,lE]
def trail (c:Int):Bool:=c == 12 || mh c || c == 22 || gone c
def stops (c:Int):Bool:=c == 11 || c == 10
def Xa (K:List Int)(ed:Nat->Bool):Nat->Nat->Bool
 | 0,_=>false
 | f+1,i=>stops (nth K i) || trail (nth K i) && (Xa K ed f (i+1) || ed (i+1))
def mT (K:List Int)(ed:Nat->Bool)(i:Nat):Bool:=Xa K ed (K.length - i) i
theorem IJ (K:List Int)(ed:Nat->Bool){i:Nat}(h:i<K.length):mT K ed i=(stops (nth K i) || trail (nth K i) && (mT K ed (i+1) || ed (i+1))):=by
 rw[mT,mT,show K.length - i=(K.length - (i+1))+1 by omega,Xa]
theorem LM (K:List Int)(ed:Nat->Bool):mT K ed K.length=false:=by rw[mT,dm];rfl
def Tj (K LV:List Int)(base:Int)(ed:Nat->Bool)(i:Nat):Int:=if mT K ed i then base else nth LV i
def VW (K:List Int)(tq:Nat):Nat->Nat->Nat
 | 0,j=>j
 | f+1,j=>if j<tq/\trail (nth K j)=true then VW K tq f (j+1)else j
def scan (K:List Int)(tq i:Nat):Nat:=VW K tq (tq - i) i
end Go.Proofs.YtnakejhohdbfdacGreatDoor.Lay

import Derived.Test.YtnakejhohdbfdaaGreatDoorVbq
namespace Go.Proofs.YtnakejhohdbfdaaGreatDoor
open Go.RowKit jN Lay uS
theorem Ds {Bd:List Int}{z:Int}(h:jf Bd z)(off:Int)(back:Bool):∃c,c<Bd.length/\(fY Bd z off back).1=nth Bd c/\fY Bd z off back=(nth Bd c,if c=0 then false else if c=Bd.length - 1 then true else back):=by
 obtain⟨j,hj,e⟩:=yI h (min (max off 0) z) Bd.length (ak _);have hp:fY Bd z off back=fY Bd z (nth Bd j) back:=by
  rw[lJ h hj,<-lJ h hj];have h1:fY Bd z off back=(nth Bd j,if nth Bd j=0 then false else if nth Bd j=z then true else back):=by rw[e];rfl
  have hx:=lJ h hj back;rw[h1,hx]
  congr 1
  by_cases h0:j=0
  ·rw[ay h0,ay (by rw[h0];exact kg h)]
  ·rw[au h0,au (fun hz=>h0 (lR h hj (by omega) (by rw[hz,kg h])))]
   by_cases h2:j=Bd.length - 1
   ·rw[ay h2,ay (by rw[h2];exact mD h)]
   ·rw[au h2,au (fun hz=>h2 (lR h hj (by omega) (by rw[hz,mD h])))]
 refine⟨j,hj,?_,?_⟩
 ·rw[hp,lJ h hj]
 ·rw[hp,lJ h hj]
theorem Xd {Bd:List Int}{z:Int}(h:jf Bd z){c:Nat}(hc:c<Bd.length)(pb:Bool):∀k,k<=Bd.length->tN Bd Bd.length (nth Bd c) pb k=if Bd.length - k<=c then(if c+1<Bd.length then(nth Bd (c+1),true)else(nth Bd c,pb))else if k=0 then(nth Bd c,pb)else(nth Bd (Bd.length - k),true)
 | 0,_=>by rw[tN,au (by omega),ay rfl]
 | k+1,hk=>by
   rw[tN,Xd h hc pb k (by omega)];have hj:Bd.length - 1 - k=Bd.length - (k+1):=by omega
   rw[hj];by_cases h1:Bd.length - (k+1)<=c
   ·rw[ay h1,au (by
     intro hl
     have:=Dj h hc hl (by omega)
     omega)]
    by_cases h2:Bd.length - k<=c
    ·rw[ay h2]
    ·rw[au h2]
     have hc':c=Bd.length - (k+1):=by omega
     by_cases h3:k=0
     ·rw[ay h3,au (by omega)]
     ·rw[au h3,ay (by omega),show Bd.length - k=c+1 by omega]
   ·rw[au h1,ay (n_ h (i:=c) (j:=Bd.length - (k+1)) (by omega) (by omega)),au (Nat.succ_ne_zero k)]
theorem Xe {Bd:List Int}{z:Int}(h:jf Bd z){c:Nat}(hc:c<Bd.length)(pb:Bool):∀k,k<=Bd.length->tP Bd (nth Bd c) pb k=if k=0\/c=0 then(nth Bd c,pb)else(nth Bd (min k c - 1),false)
 | 0,_=>by rw[tP,ay (.inl rfl)]
 | k+1,hk=>by
   rw[tP,Xe h hc pb k (by omega)];by_cases h1:k<c
   ·rw[ay (n_ h h1 hc),au (by omega),show min (k+1) c - 1=k by omega]
   ·rw[au (by
     intro hl
     have:=Dj h (by omega) hl hc
     omega)]
    by_cases h2:c=0
    ·rw[ay (.inr h2),ay (.inr h2)]
    ·rw[au (by omega),au (by omega),show min k c=min (k+1) c by omega]
theorem Zr {Bd:List Int}{z:Int}(h:jf Bd z){c:Nat}(hc:c<Bd.length)(pb:Bool):tN Bd Bd.length (nth Bd c) pb Bd.length=if c+1<Bd.length then(nth Bd (c+1),true)else(nth Bd c,pb):=by
 rw[Xd h hc pb _ (ak _),ay (by omega)]
theorem Zs {Bd:List Int}{z:Int}(h:jf Bd z){c:Nat}(hc:c<Bd.length)(pb:Bool):tP Bd (nth Bd c) pb Bd.length=if c=0 then(nth Bd c,pb)else(nth Bd (c - 1),false):=by
 rw[Xe h hc pb _ (ak _)];by_cases h0:c=0
 ·rw[ay (.inr h0),ay h0]
 ·rw[au (by omega),au h0,show min Bd.length c=c by omega]
theorem Kk {Bd V:List Int}{z:Int}{Ls:List Ln}(F:vK Bd V z Ls)(h0:0<V.length){i k:Nat}(hi:i<Ls.length)(hk:k<=(ji Ls i).o.length)(off:Int)(back:Bool)(hne:(i,k)≠mY Bd V z Ls off back):iM Bd V Ls i k≠fY Bd z off back:=by
 intro e;have h1:=(SM F h0 hi hk).2;rw[e,EX F.rs]at h1;exact hne h1.symm
theorem Oa (s:ByteArray)(n:Nat)(w:World)(hs:s.size<=1000000)(hT:Floor w)(hend:gJ.Ends s n):Calls Tryz.prog 66 #[.string s] w fun e w'=>∃gB cB,e=.returned (.slice (some ⟨gB,0,none⟩) (bnd s n).length cB)/\rowAt w' gB (bnd s n).length (bnd s n)/\w.heap.size<=gB/\Fr [] w w':=by
 refine(mE.mI s w hs hT.u n hend).mono ?_;rintro e w' ⟨v,rfl,own,hb⟩;have hpos:0<(bnd s n).length:=by
  have h1:=(lP hend).head;cases hB:bnd s n with
  | nil=>rw[hB]at h1;simp at h1
  | cons=>simp
 obtain⟨g,cap,rfl⟩:=fR hpos own;exact⟨g,cap,rfl,fun k hk=>by rw[own.cellAt k (by omega),iJ hk],(fZ own).1,Fr.of_below hb⟩
end Go.Proofs.YtnakejhohdbfdaaGreatDoor

import Derived.WalkLawsBesides
import Derived.Test.YtnakejhohdbfdacGreatDoorMan
set_option maxHeartbeats 4000000
set_option maxRecDepth 10000
namespace Go.Proofs.YtnakejhohdbfdacGreatDoor.Lay
open Go Dec pS j9 Go.Proofs.Tryz
theorem Py (l c:Int):0<=up l c/\up l c<=2:=by unfold up;repeat(first | omega | split)
theorem Ag (K C:List Int)(base:Int)(hb:0<=base/\base<=1)(L:List Int)(hL:∀i,0<=nth L i/\nth L i<=9):∀k,(0<=(jZ K C base k L).1/\(jZ K C base k L).1<=11)/\(∀i,0<=nth (jZ K C base k L).2 i/\nth (jZ K C base k L).2 i<=11)/\∀i,k<=i->nth (jZ K C base k L).2 i<=9
 | 0=>by
   refine⟨by simp only[jZ];omega,fun i=>?_,fun i _=>(hL i).2⟩;have:=hL i;simp only[jZ];omega
 | k+1=>by
   obtain⟨h1,h2,h3⟩:=Ag K C base hb L hL k;have hset:∀(M:List Int) (v:Int) (i:Nat),(0<=v/\v<=11)->(0<=nth M i/\nth M i<=11)->(0<=nth (M.set k v) i/\nth (M.set k v) i<=11)/\(k+1<=i->nth (M.set k v) i=nth M i):=by
    intro M v i hv hm;by_cases e:k=i
    ·subst e
     refine⟨?_,fun h=>by omega⟩;by_cases hl:k<M.length
     ·rw[nth,bn hl];exact hv
     ·rw[nth,bN (by rw[bK];omega)];decide
    ·rw[nth,bJ e];exact⟨hm,fun _=>rfl⟩
   rw[jZ]
   try dsimp only
   split
   ·exact⟨h1,fun i=>(hset _ _ i h1 (h2 i)).1,fun i hi=>by rw[(hset _ _ i h1 (h2 i)).2 hi];exact h3 i (by omega)⟩
   ·have hu:=Py (nth (jZ K C base k L).2 k) (nth C k)
    have hk:=h3 k (au _);have hk0:=(h2 k).1;have hv:0<=nth (jZ K C base k L).2 k+up (nth (jZ K C base k L).2 k) (nth C k)/\nth (jZ K C base k L).2 k+up (nth (jZ K C base k L).2 k) (nth C k)<=11:=by omega
    exact⟨hv,fun i=>(hset _ _ i hv (h2 i)).1,fun i hi=>by rw[(hset _ _ i hv (h2 i)).2 hi];exact h3 i (by omega)⟩
theorem Ma (R K:List Int)(base:Int)(hb:base=0\/base=1)(i:Nat):0<=nth (levels R K base) i/\nth (levels R K base) i<=11 :=
 (Ag K _ base (by omega) _ (pM K base hb K.length (au _)).small K.length).2.1 i
theorem D_ (R K:List Int)(base:Int)(hb:base=0\/base=1)(ed:Nat->Bool)(i:Nat):0<=Tj K (levels R K base) base ed i/\Tj K (levels R K base) base ed i<=11:=by
 have:=Ma R K base hb i;unfold Tj;split <;> omega
def cidx (B:List Int)(x:Int):Nat:=B.countP (fun y=>decide (y<x))
def ei (B:List Int)(c:Nat)(Br:List Int)(k:Nat):Nat:=if k=0 then 0 else if k<=Br.length then cidx B (nth Br (k - 1))else c
def TF (I:List Nat)(B:List Int)(Br:List Int)(j:Nat):Bool:=(List.range (Br.length+2)).any fun k=>decide (iP I (ei B (I.length - 1) Br k)=j)
theorem A_ {B:List Int}{z:Int}(hr:jN B z){x:Int}(hc:B.contains x=true):cidx B x<B.length/\B.getD (cidx B x) 0=x:=by
 obtain⟨k,hk⟩:=kO x B hr.sorted;rw[cidx,mP hk];exact(contains_iff hr.sorted hk).1 hc
theorem rO (l:List Int)(i:Nat):nth l i=l.getD i 0:=by rw[nth,List.getD]
theorem nk {s:ByteArray}{n:Nat}(h:Dec.Ends s n){k:Nat}(hk:k<(jd s n).length):nth (bnd s n) k=((pos s (iP (jd s n) k):Nat):Int):=by
 rw[xI h,nth,iP,cA,aA hk];rfl
theorem lJ {s:ByteArray}{n:Nat}(h:Dec.Ends s n):(bnd s n).length=(jd s n).length:=by rw[xI h,cP]
structure rP (s:ByteArray)(n:Nat)(Br:List Int):Prop where
 e0:ei (bnd s n) (cn s n) Br 0=0
 eN:ei (bnd s n) (cn s n) Br (Br.length+1)=cn s n
 mono:∀i j,i<j->j<=Br.length+1->ei (bnd s n) (cn s n) Br i<ei (bnd s n) (cn s n) Br j
 le:∀k,k<=Br.length+1->ei (bnd s n) (cn s n) Br k<=cn s n
 at_:∀k,k<Br.length->((pos s (iP (jd s n) (ei (bnd s n) (cn s n) Br (k+1))):Nat):Int)=nth Br k
theorem Gx {s:ByteArray}{n:Nat}(h:Dec.Ends s n)(hn:0<n)(Br:List Int)(hB:nX (bnd s n) s.size Br Br.length=true):rP s n Br:=by
 have hr:=jW h;have hlen:=lJ h;have hl2:=jA s n;have hc:∀k,k<Br.length->cidx (bnd s n) (nth Br k)<(jd s n).length/\((pos s (iP (jd s n) (cidx (bnd s n) (nth Br k))):Nat):Int)=nth Br k:=fun k hk=>by
  obtain⟨a1,a2⟩:=A_ hr (uQ hB k hk).2.2;rw[hlen]at a1;refine⟨a1,?_⟩;rw[<-nk h a1,rO];exact a2
 have step:∀k,k<=Br.length->ei (bnd s n) (cn s n) Br k<ei (bnd s n) (cn s n) Br (k+1):=by
  intro k hk;have key:∀a b,a<(jd s n).length->b<(jd s n).length->((pos s (iP (jd s n) a):Nat):Int)<((pos s (iP (jd s n) b):Nat):Int)->a<b:=by
   intro a b ha hb hlt
   rcases b8 a b with h1 | h1 | h1
   ·exact h1
   ·subst h1;omega
   ·have:=kR s _ _ (qN (lI s n) h1 ha);omega
  have hcl:cn s n<(jd s n).length:=by rw[cn];omega
  have hend:((pos s (iP (jd s n) (cn s n)):Nat):Int)=((s.size:Nat):Int):=by rw[lE,h.1]
  have h0:((pos s (iP (jd s n) 0):Nat):Int)=0:=by rw[rD];rfl
  have hs0:(0:Int)<((s.size:Nat):Int):=by have:=h.2 0 hn;omega
  by_cases hk0:k=0
  ·subst hk0
   have e1:ei (bnd s n) (cn s n) Br 0=0:=rfl;rw[e1];by_cases hb:0<Br.length
   ·have e2:ei (bnd s n) (cn s n) Br (0+1)=cidx (bnd s n) (nth Br 0):=by rw[ei,ay (by omega),aE (by omega)]
    rw[e2];have h1:=uQ hB 0 hb;rw[aE rfl]at h1;exact key _ _ (by omega) (hc 0 hb).1 (by rw[h0,(hc 0 hb).2];exact h1.1)
   ·have e2:ei (bnd s n) (cn s n) Br (0+1)=cn s n:=by rw[ei,ay (by omega),ay (by omega)]
    rw[e2];exact key _ _ (by omega) hcl (by rw[h0,hend];exact hs0)
  ·have e1:ei (bnd s n) (cn s n) Br k=cidx (bnd s n) (nth Br (k - 1)):=by rw[ei,ay hk0,aE hk]
   rw[e1];have h1:=hc (k - 1) (by omega);by_cases hb:k<Br.length
   ·have e2:ei (bnd s n) (cn s n) Br (k+1)=cidx (bnd s n) (nth Br k):=by rw[ei,ay (by omega),aE (by omega),dx]
    rw[e2];have h2:=uQ hB k hb;rw[ay hk0]at h2;exact key _ _ h1.1 (hc k hb).1 (by rw[h1.2,(hc k hb).2];exact h2.1)
   ·have e2:ei (bnd s n) (cn s n) Br (k+1)=cn s n:=by rw[ei,ay (by omega),ay (by omega)]
    rw[e2];have h2:=(uQ hB (k - 1) (by omega)).2.1;exact key _ _ h1.1 hcl (by rw[h1.2,hend];exact h2)
 have mono:∀d i,i+d+1<=Br.length+1->ei (bnd s n) (cn s n) Br i<ei (bnd s n) (cn s n) Br (i+d+1):=by
  intro d
  induction d with
  | zero=>intro i hi;exact step i (by omega)
  | succ d ih=>intro i hi;exact fA (ih i (by omega)) (step (i+d+1) (by omega))
 have eN:ei (bnd s n) (cn s n) Br (Br.length+1)=cn s n:=by rw[ei,ay (by omega),ay (by omega)]
 have mono':∀i j,i<j->j<=Br.length+1->ei (bnd s n) (cn s n) Br i<ei (bnd s n) (cn s n) Br j:=fun i j hij hj=>by
  have:=mono (j - i - 1) i (by omega)
  rwa [show i+(j - i - 1)+1=j by omega]at this
 refine⟨rfl,eN,mono',fun k hk=>?_,fun k hk=>?_⟩
 ·rcases aH hk with h1 | h1
  ·have:=mono' k (Br.length+1) h1 (au _);rw[eN]at this;omega
  ·rw[h1,eN];exact au _
 ·rw[ei,ay (by omega),aE (by omega),dx];exact(hc k hk).2
end Go.Proofs.YtnakejhohdbfdacGreatDoor.Lay
namespace Go.Proofs.YtnakejhohdbfdacGreatDoor.Cls
open Go.RowKit Dec BA pS Go.Proofs.Tryz
theorem Gy (l:List Int)(z:Int)(hr:jN l z)(x:Int)(k g cap:Nat)(w:World)(hc:Cut l x k)(hl:l.length<=1000002)(hcell:∀j,j<l.length->w.cell? ⟨g,j,none⟩=some (.int .i64 (l.getD j 0))) :
 Calls prog 78 #[.slice (some ⟨g,0,none⟩) l.length cap,.int .i64 x] w fun e w'=>e=.returned (.tuple #[.int .i64 (k:Nat),.bool (l.contains x)])/\∃q,w'=w.drewN q:=by
 have h:=Any.slices_BinarySearch_int Tryz.DZ g 0 l.length cap l x w (au _) (by omega) (fun j hj=>by rw[dL];exact hcell j hj)
  (by rw[c_];exact hr.sorted.imp fun h=>Int.le_of_lt h)
 rw[c_]at h;have e:l.countP (fun y=>decide (y<x))=k:=mP hc;rw[e]at h;exact h
theorem pz (l:List Int)(z:Int)(hr:jN l z)(off:Int)(up:Bool)(k g cap:Nat)(w:World)(hz:0<=z)(hc:Cut l (min (max off 0) z) k)(hl:l.length<=1000002)(hcell:∀j,j<l.length->w.cell? ⟨g,j,none⟩=some (.int .i64 (l.getD j 0))) :
 Calls prog 40 #[.slice (some ⟨g,0,none⟩) l.length cap,.int .i64 off,.bool up] w fun e w'=>e=.returned (.int .i64 (mY l (min (max off 0) z) up k))/\∃q,w'=w.drewN q:=by
 have HR:=hide hr;have aaD:=hide hc;have hk:=hr.Ot hc (by omega);have hx0:0<=min (max off 0) z:=by omega
 have HX0:=hide hx0;have KC:=hide hcell;have wX:(k:Int)<(l.length:Int):=by omega
 obtain⟨d,hd⟩:∃d,l.length=d+1:=⟨l.length - 1,by omega⟩;have hzc:w.cell? ⟨g,d,none⟩=some (.int .i64 z):=by
  rw[hcell d (by omega),List.getD,show d=l.length - 1 by omega,hr.last];rfl
 have hdI:(l.length:Int) - 1=(d:Int):=by omega
 have aec:(d:Int)<(l.length:Int):=by omega
 generalize hsn:mY l (min (max off 0) z) up k=sn;have DD:=hide hsn;clear hr hc hcell hx0 hsn hd;go_enter func40,ntmps40;go_wp2_with fail;refine(Gy l _ HR.out _ k g cap w aaD.out (by omega) KC.out).mono ?_;rintro e w2 ⟨rfl,q,rfl⟩;clear hzc hdI aec;cases hct:l.contains (min (max off 0) z)
 ·have hk0:=HR.out.uI aaD.out HX0.out hct
  cases up
  ·have E:l.getD (k - 1) 0=sn:=by rw[<-DD.out];unfold mY;rw[hct];rfl
   obtain⟨r,hr⟩:∃r,k=r+1:=⟨k - 1,by omega⟩;subst hr;have c:=KC.out r (by omega);rw[show r+1 - 1=r by omega]at E;rw[E]at c;have hri:(r:Int)<(l.length:Int):=by omega
   clear E hct wX;go_wp2;go_ret;exact⟨rfl,q,rfl⟩
  ·have E:l.getD k 0=sn:=S5.symm.trans DD.out
   have c:=KC.out k hk;rw[E]at c;clear E hct;go_wp2;go_ret;exact⟨rfl,q,rfl⟩
 ·have E:l.getD k 0=sn:=by rw[<-DD.out];unfold mY;rw[hct];rfl
  have c:=KC.out k hk;rw[E]at c;clear E hct;go_wp2;go_ret;exact⟨rfl,q,rfl⟩
end Go.Proofs.YtnakejhohdbfdacGreatDoor.Cls
namespace Go.Proofs.YtnakejhohdbfdacGreatDoor
open Go.RowKit j9 Lay pS Go.Proofs.Tryz
theorem Gz (l:List Int)(z:Int)(hr:jN l z)(x:Int)(g cap:Nat)(w:World)(hl:l.length<=1000002)(hrow:rowAt w g l.length l) :
 Calls prog 78 #[.slice (some ⟨g,0,none⟩) l.length cap,.int .i64 x] w fun e w'=>e=.returned (.tuple #[.int .i64 (cidx l x:Nat),.bool (l.contains x)])/\∃q,w'=w.drewN q:=by
 obtain⟨k,hk⟩:=kO x l hr.sorted;have h:=Cls.Gy l z hr x k g cap w hk hl (fun j hj=>by rw[hrow j hj,rO]);rw[show cidx l x=k from mP hk];exact h
theorem wO (B:List Int)(z:Int)(hr:jN B z)(x:Int)(gB cB nB:Nat)(v1 v2:Value)(w:World)(hn:nB=B.length)(hl:nB<=1000)(hB:rowAt w gB nB B) :
 Calls prog 100 #[.agg #[.slice (some ⟨gB,0,none⟩) nB cB,v1,v2],.int .i64 x] w fun e w'=>e=.returned (.int .i64 (cidx B x:Nat))/\Fr [] w w':=by
 have HS:=hid (fun(X:World) (hf:Fr [] w X)=>Gz B z hr x gB cB X (by omega) (by rw[<-hn];exact hB.fr hf aj));rw[<-hn]at HS;obtain⟨b,hb⟩:∃b,b=B.contains x:=⟨_,rfl⟩;rw[<-hb]at HS;obtain⟨k,hk⟩:∃k,k=cidx B x:=⟨_,rfl⟩;rw[<-hk]at HS ⊢;clear hb hk hB hn;go_enter func100,ntmps100;go_wp2_with (first | (go_at_call 78;refine(HS.out _ ((Fr.refl [] w).alloc _)).mono ?_;rintro e w1 ⟨rfl,q,rfl⟩));go_ret;exact⟨rfl,((Fr.refl [] w).alloc _).trans (jf _ _)⟩
def lnP (B V Wd E:List Int)(j:Nat):Ln :=
 let a:=cidx B (nth E j)
 let b:=cidx B (nth E (j+1))
 let o:=(nY (fun t=>nth V (a+t)) (b - a)).map (fun t=>t+a)
 ⟨nth E j,nth E (j+1),o,xs (fun k=>nth Wd k) o (b - a)⟩
def zi (B V Wd E:List Int)(k:Nat):List Ln:=(List.range k).map (lnP B V Wd E)
theorem Mb (B V Wd E:List Int)(k:Nat):zi B V Wd E (k+1)=zi B V Wd E k++[lnP B V Wd E k]:=by
 rw[zi,eS,dz];rfl
theorem Pz (B V Wd E:List Int)(k:Nat):(zi B V Wd E k).length=k:=by simp[zi]
theorem XH (V:List Int)(gV nV cV a b:Nat)(v0 v2:Value)(w:World)(hn:nV<=1000)(hab:a<=b)(hbn:b<=nV)(hV:rowAt w gV nV V)(hb:∀i,0<=nth V i/\nth V i<=1000) :
 Calls prog 147 #[.agg #[v0,.slice (some ⟨gV,0,none⟩) nV cV,v2],.int .i64 (a:Nat),.int .i64 (b:Nat)] w fun e w'=>∃go,e=.returned (.slice (some ⟨go,0,none⟩) (b - a) (b - a))/\w'.ownsRow w.heap.size 3 1 (.slice (some ⟨go,0,none⟩) (b - a) (b - a)) (b - a) (jk ((nY (fun t=>nth V (a+t)) (b - a)).map (fun t=>t+a)))/\Fr [] w w':=by
 have h:=TC V gV nV cV a (b - a) v0 v2 w hn (by omega) hV hb;rw[show a+(b - a)=b by omega]at h;exact h
theorem mU.snoc {w w':World}{Bs U U' n:Nat}{hs:List Value}{Ls:List Ln}{l:Ln}{vO vX:Value}(h:mU w Bs U hs Ls)(hn:n=Ls.length)(hl:hs.length=n * 4)(hU:U<=U')(hf:∀e v m xs,(e=3\/e=2)->(∀g,v.ownBlock=some g->g<U)->w.ownsRow Bs e 1 v m xs->w'.ownsRow Bs e 1 v m xs)
 (hO:w'.ownsRow Bs 3 1 vO l.o.length (jk l.o)) (hX:w'.ownsRow Bs 2 1 vX l.x.length (iS l.x)) (hgO:∀g,vO.ownBlock=some g->g<U') (hgX:∀g,vX.ownBlock=some g->g<U'):mU w' Bs U' (hs++[.int .i64 l.f,.int .i64 l.t,vO,vX]) (Ls++[l]):=by
 intro j x hj
 rcases b8 j n with hlt | heq | hgt
 ·rw[aJ (by omega)]at hj
  obtain⟨a,b,h1,h2,h3,h4,h5⟩:=((h.fr hf).mono hU) j x hj;refine⟨a,b,?_,?_,?_,?_,h5⟩
  ·rw[aJ (by omega)];exact h1
  ·rw[aJ (by omega)];exact h2
  ·rw[aJ (by omega)];exact h3
  ·rw[aJ (by omega)];exact h4
 ·subst heq
  rw[hn,aI (au _),dm]at hj;obtain rfl:l=x:=aZ hj;refine⟨vO,vX,?_,?_,?_,?_,hO,hX,hgO,hgX⟩
  ·rw[aI (by omega),show j * 4 - hs.length=0 by omega];rfl
  ·rw[aI (by omega),show j * 4+1 - hs.length=1 by omega];rfl
  ·rw[aI (by omega),show j * 4+2 - hs.length=2 by omega];rfl
  ·rw[aI (by omega),show j * 4+3 - hs.length=3 by omega];rfl
 ·rw[bN (by rw[aD];simp;omega)]at hj
  cases hj
theorem Mc (B V Wd E:List Int)(z:Int)(gB cB nB gV nV cV gW cW ge ce K:Nat)(w:World)(hr:jN B z)(Sz:nB=B.length)(hB1:nB<=1000)(hn:nV<=1000)(Dr:0<K)(hK:K<=1000)(hce:K+1<=ce)
 (hB:rowAt w gB nB B) (hV:rowAt w gV nV V) (hW:rowAt w gW nV Wd) (hE:rowAt w ge (K+1) E) (hvb:∀i,0<=nth V i/\nth V i<=1000) (hwb:∀k,k<nV->0<=nth Wd k/\nth Wd k<=429496729600)
 (hcut:∀j,j<K->cidx B (nth E j)<=cidx B (nth E (j+1))/\cidx B (nth E (j+1))<=nV) :
 Calls prog 114 #[.agg #[.slice (some ⟨gB,0,none⟩) nB cB,.slice (some ⟨gV,0,none⟩) nV cV,.slice (some ⟨gW,0,none⟩) nV cW],.slice (some ⟨ge,0,none⟩) (K+1) ce] w fun e w'=>∃vL hs,e=.returned vL/\w'.ownsRow w.heap.size 69 4 vL K hs/\mU w' w.heap.size w'.heap.size hs (zi B V Wd E K)/\Fr [] w w':=by
 obtain⟨i51,XI,hx0,hx1,hx2⟩:=fY O1;obtain⟨vS,AH⟩:∃vS:Array Value,vS=#[.slice (some ⟨gB,0,none⟩) nB cB,.slice (some ⟨gV,0,none⟩) nV cV,.slice (some ⟨gW,0,none⟩) nV cW]:=⟨_,rfl⟩;obtain⟨wb,E2⟩:∃wb,wb=w.alloc (.cells #[.slice (some ⟨gB,0,none⟩) nB cB,.slice (some ⟨gV,0,none⟩) nV cV,.slice (some ⟨gW,0,none⟩) nV cW] 146):=⟨_,rfl⟩;have j8:=hid (show Fr [] w wb by rw[E2];exact(Fr.refl [] w).alloc _);have AF:=hid (show wb.heap[w.heap.size]?=some (.cells #[.slice (some ⟨gB,0,none⟩) nB cB,.slice (some ⟨gV,0,none⟩) nV cV,.slice (some ⟨gW,0,none⟩) nV cW] 146 (0,0)) by rw[E2];exact iL w _);have Gw:wb.heap.size=w.heap.size+1:=by rw[E2];simp
 have HV:=hid hV;have HW:=hid hW;have HE:=hid hE;have E3:=hid hvb;have NQ:=hid hwb;have HCT:=hid hcut;have HA:=hid (fun(x:Int) (X:World) (hf:Fr [] w X)=>wO B z hr x gB cB nB (.slice (some ⟨gV,0,none⟩) nV cV) (.slice (some ⟨gW,0,none⟩) nV cW) X Sz hB1 (hB.fr hf aj));clear AH hV hW hE hB hvb hwb hcut hr Sz vS;have aee:¬ce=1:=by omega
 have aef:1<ce:=by omega
 go_enter func114,ntmps114;go_wp2_with fail;rw[<-E2];go_loopw [5,13] (fun vL kk wr=>∃(i:Nat) (hs:List Value),kk=.int .i64 i/\i<=K/\Hid (wr.ownsRow (w.heap.size+1) 69 4 vL i hs)/\Hid (mU wr (w.heap.size+1) wr.heap.size hs (zi B V Wd E i))/\Hid (Fr [] wb wr)) (fun _ kk _=>K - (intOf kk).toNat)
 case atStart=>exact⟨0,[],rfl,aN _,hid ⟨rfl,.inl ⟨rfl,rfl⟩⟩,hid (fun j l hj=>by simp[zi]at hj),hid (Fr.refl _ _)⟩
 case round =>
  obtain⟨i,hs,rfl,hiK,HL,HI,HF⟩:=hrel;have qQ:=hid (j8.out.trans HF.out);by_cases hil:i<K
  ·have y_:(i:Int)<(K:Int):=by omega
   have aif:(i:Int)<(K:Int)+1:=by omega
   have e0:=HE.out.fr qQ.out aj i (by omega);have e1:wr.cell? ⟨ge,1+i,none⟩=some (.int .i64 (nth E (i+1))):=by rw[dR 1 i];exact HE.out.fr qQ.out aj (i+1) (by omega)
   obtain⟨hc1,hc2⟩:=HCT.out i hil;obtain⟨aL,cL,DE⟩:=iW HL.out;subst DE;have GA:=hid (Mb B V Wd E i);have D2:=hid (show lnP B V Wd E i=⟨nth E i,nth E (i+1),(nY (fun t=>nth V (cidx B (nth E i)+t)) (cidx B (nth E (i+1)) - cidx B (nth E i))).map (fun t=>t+cidx B (nth E i)),xs (fun k=>nth Wd k) ((nY (fun t=>nth V (cidx B (nth E i)+t)) (cidx B (nth E (i+1)) - cidx B (nth E i))).map (fun t=>t+cidx B (nth E i))) (cidx B (nth E (i+1)) - cidx B (nth E i))⟩from rfl);generalize nth E i=ea at *;generalize nth E (i+1)=eb at *;have AG:=hid (iJ AF.out HF.out aj);have s0:wr.cell? ⟨w.heap.size,0,none⟩=some (.slice (some ⟨gB,0,none⟩) nB cB):=iG AG.out (i:=0) rfl;have s1:wr.cell? ⟨w.heap.size,1,none⟩=some (.slice (some ⟨gV,0,none⟩) nV cV):=iG AG.out (i:=1) rfl;have s2:wr.cell? ⟨w.heap.size,2,none⟩=some (.slice (some ⟨gW,0,none⟩) nV cW):=iG AG.out (i:=2) rfl;have HVS:=hid (fun(X:World) (hf:Fr [] w X)=>XH V gV nV cV (cidx B ea) (cidx B eb) (.slice (some ⟨gB,0,none⟩) nB cB) (.slice (some ⟨gW,0,none⟩) nV cW) X hn hc1 hc2 (HV.out.fr hf aj) E3.out);have TG:=hid (And.intro s0 (And.intro s1 s2));have hbl:=fC _ _ s0;dsimp only at hbl;go_wp2_with fail;go_region_held (fun wz=>wz.cell? ⟨w.heap.size,0,none⟩=some (.slice (some ⟨gB,0,none⟩) nB cB)/\wz.cell? ⟨w.heap.size,1,none⟩=some (.slice (some ⟨gV,0,none⟩) nV cV)/\wz.cell? ⟨w.heap.size,2,none⟩=some (.slice (some ⟨gW,0,none⟩) nV cW))
    (first | exact l9 | exact TG.out | go_keep)
    (first
      | (go_at_call 100;refine(HA.out _ _ ?fa).mono ?_;(case fa=>first | exact jc.out.trans (s_ _ _ _ rfl rfl rfl rfl) | exact qQ.out.trans (s_ _ _ _ rfl rfl rfl rfl));rintro e w1 ⟨rfl,hf1⟩;have jc:=hid (show Fr [] w w1 from by first | exact jc.out.trans ⟨hf1.os,hf1.tape,hf1.output,hf1.size,hf1.block⟩ | exact qQ.out.trans ⟨hf1.os,hf1.tape,hf1.output,hf1.size,hf1.block⟩);have nH:=hid (show Fr [] wr w1 from by first | exact nH.out.trans ⟨hf1.os,hf1.tape,hf1.output,hf1.size,hf1.block⟩ | exact⟨hf1.os,hf1.tape,hf1.output,hf1.size,hf1.block⟩);have l9:=And.intro (nH.out.cell s0 aj) (And.intro (nH.out.cell s1 aj) (nH.out.cell s2 aj));clear hf1)
      | (go_at_call 147;refine(HVS.out _ ?fb).mono ?_;(case fb=>exact jc.out.trans (s_ _ _ _ rfl rfl rfl rfl));rintro e w2 ⟨go,rfl,jR,hf2⟩;have jO:=hid (iU (base':=w.heap.size+1) jR (aK hbl nH.out.size));have HG2:=hid (show Fr [] wr w2 from nH.out.trans ⟨hf2.os,hf2.tape,hf2.output,hf2.size,hf2.block⟩);have hsz2:=nH.out.size;have l9:=And.intro (HG2.out.cell s0 aj) (And.intro (HG2.out.cell s1 aj) (HG2.out.cell s2 aj));clear jR hf2))
   all_goals (
    obtain⟨O,hO⟩:∃O,O=(nY (fun t=>nth V (cidx B ea+t)) (cidx B eb - cidx B ea)).map (fun t=>t+cidx B ea):=⟨_,rfl⟩
    have HOL:=hid (show O.length=cidx B eb - cidx B ea by rw[hO,cP,rH])
    have sj:=hid (fun t (ht:t<cidx B eb - cidx B ea)=>show iP O t<nV by
     rw[hO,Kz (by rw[rH];exact ht)]
     have:=A5 (fun t=>nth V (cidx B ea+t)) (cidx B eb - cidx B ea) _ (qC (l:=nY (fun t=>nth V (cidx B ea+t)) (cidx B eb - cidx B ea)) (k:=t) (by rw[rH];exact ht))
     omega)
    rw[<-hO]at jO D2
    clear hO
    have Fw:=hid (show cidx B eb - cidx B ea<=1000 by omega)
    generalize cidx B eb - cidx B ea=N at *
    have hNB:=Fw.out
    have TD:=hid (qQ.out.trans HG2.out)
    have Tw:=hid (fun(X:World) (hf:Fr [] w2 X)=>Px Wd gW nV cW go N N O (.slice (some ⟨gB,0,none⟩) nB cB) (.slice (some ⟨gV,0,none⟩) nV cV) X hNB ((HW.out.fr TD.out aj).fr hf aj) (nF (iM jO.out hf) HOL.out) sj.out NQ.out)
    obtain⟨t0,t1,t2⟩:=l9
    have XJ:=HG2.out.size
    go_wp2_with (first
     | (go_at_call 148;refine(Tw.out _ ?fa).mono ?_;(case fa=>exact s_ _ _ _ rfl rfl rfl rfl);rintro e w3 ⟨gx,cx,rfl,lK,hf3⟩;have Cz:=hid (iU (base':=w.heap.size+1) lK (aK hbl XJ));have n_:=hid (show Fr [] w2 w3 from⟨hf3.os,hf3.tape,hf3.output,hf3.size,hf3.block⟩);have aeh:=n_.out.size;have Md:=hid (iM HL.out (HG2.out.trans n_.out));clear lK hf3)
     | (at_builtin;refine fV _ rfl _ _ 143 rfl (w.heap.size+1) 69 i51 _ 4 64 underlying143 XI hx0 hx1 hx2 rfl (by decide) _ i hs rfl ?own _ 1 1 [.int .i64 ea,.int .i64 eb,.slice (some ⟨go,0,none⟩) N N,.slice (some ⟨gx,0,none⟩) (N+1) cx] rfl rfl (kM _ _ _ _ (by simp)) (Gp _ _ _ _ _ _ _ _) (by unfold maxLen;omega) (by omega) ?Gk ?_))
    case own=>exact Md.out.alloc _
    case Gk=>simp;omega
    intro v' w' hown hgrow hnil
    obtain⟨g',c',hv'⟩:=iQ (by omega) hown
    subst hv'
    have HHO:=hid hown
    have HHG:=hid hgrow
    have jQ:=hid (show Fr [] w2 (w3.alloc (.cells #[.int .i64 ea,.int .i64 eb,.slice (some ⟨go,0,none⟩) N N,.slice (some ⟨gx,0,none⟩) (N+1) cx] 69))from n_.out.alloc _)
    have J_:=hid (fun(e:Nat) (v:Value) (m:Nat) (xs:List Value) (he:e=3\/e=2) (hh:(w3.alloc (.cells #[.int .i64 ea,.int .i64 eb,.slice (some ⟨go,0,none⟩) N N,.slice (some ⟨gx,0,none⟩) (N+1) cx] 69)).ownsRow (w.heap.size+1) e 1 v m xs)=>show w'.ownsRow (w.heap.size+1) e 1 v m xs from mE hh HHG.out (fun g hg=>by
     obtain⟨cs,t',f',h5,h6⟩:=pW (Md.out.alloc (.cells #[.int .i64 ea,.int .i64 eb,.slice (some ⟨go,0,none⟩) N N,.slice (some ⟨gx,0,none⟩) (N+1) cx] 69)) hg
     exact⟨cs,t',f',h5,by rw[h6];rcases he with rfl | rfl <;> decide⟩))
    have aej:w3.heap.size<=w'.heap.size:=by have h5:=hgrow.size;simp at h5;omega
    have HI4:=hid (show mU w' (w.heap.size+1) w'.heap.size (hs++[.int .i64 ea,.int .i64 eb,.slice (some ⟨go,0,none⟩) N N,.slice (some ⟨gx,0,none⟩) (N+1) cx]) (zi B V Wd E (i+1)) by
     rw[GA.out,D2.out]
     refine mU.snoc (l:=⟨ea,eb,O,xs (fun k=>nth Wd k) O N⟩) (n:=i) HI.out (Pz B V Wd E i).symm HL.out.1 (by have:=HG2.out.size;have:=n_.out.size;omega) (fun e v m xs he _ hh=>J_.out e v m xs he (iM hh (HG2.out.trans jQ.out))) ?_ ?_ ?_ ?_
     ·dsimp only;rw[HOL.out];exact J_.out 3 _ _ _ (.inl rfl) (iM jO.out jQ.out)
     ·dsimp only;rw[zh];exact J_.out 2 _ _ _ (.inr rfl) (Cz.out.alloc _)
     ·intro g hg;cases hg;have:=(ji jO.out).2;show go<_;omega
     ·intro g hg;cases hg;have:=(ji Cz.out).2;show gx<_;omega)
    have jI:=hid (show Fr [] wb w' from(HF.out.trans (HG2.out.trans jQ.out)).grown HHG.out (fun g hg=>by
     have:=(Md.out.lt g hg).1;omega))
    clear hown hgrow hnil
    go_wp2
    go_roundw
    case rel=>exact⟨i+1,_,by go_num,by omega,HHO,HI4,jI⟩
    case measure=>simp[intOf];omega)
  ·obtain rfl:i=K:=by omega
   have y_:¬(i:Int)<(i:Int):=by omega
   have HIL:=hid (show mU wr w.heap.size wr.heap.size hs (zi B V Wd E i)from fun j l hj=>by
    obtain⟨vO,vX,a1,a2,a3,a4,a5,a6,a7⟩:=HI.out j l hj
    exact⟨vO,vX,a1,a2,a3,a4,iU a5 (by omega),iU a6 (by omega),a7⟩)
   go_wp2;go_ret;exact⟨_,rfl,hs,iU HL.out (by omega),HIL.out,qQ.out⟩
end Go.Proofs.YtnakejhohdbfdacGreatDoor
namespace Go.Proofs.YtnakejhohdbfdacGreatDoor
open Go Go.Proofs.Tryz
end Go.Proofs.YtnakejhohdbfdacGreatDoor
namespace Go.Proofs.YtnakejhohdbfdacGreatDoor
open Go.RowKit j9 Lay pS Go.Proofs.Tryz
def Me (K:List Int):Nat->Bool
 | 0=>false
 | k+1=>Me K k || nth K k == 10
theorem CA {K:List Int}{P:Nat->Nat}{m:Nat}(hP:∀i j,i<j->P i<P j):∀k,Lay.early K P ((P m:Nat):Int) k=Me K (min k m)
 | 0=>by rw[Nat.zero_min];rfl
 | k+1=>by
   rw[Lay.early,CA hP k];by_cases h:k<m
   ·rw[show min (k+1) m=min k m+1 by omega,Me,show min k m=k by omega,bQ (by have:=hP k m h;omega),Bool.and_true]
   ·have h1:¬((P k:Nat):Int)<((P m:Nat):Int):=by
     rcases aH (Nat.le_of_not_lt h)with h2 | h2
     ·have:=hP m k h2;omega
     ·rw[h2];omega
    rw[show min (k+1) m=min k m by omega,bS h1,Bool.and_false,Bool.or_false]
theorem lB {w w':World}{g:Nat}{l:List (Int × Int × Int)}(h:Cls.TabAt w g l)(hf:Fr [] w w'):Cls.TabAt w' g l:=fun i hi =>
 ⟨hf.cell (h i hi).1 aj,hf.cell (h i hi).2.1 aj,hf.cell (h i hi).2.2 aj⟩
end Go.Proofs.YtnakejhohdbfdacGreatDoor

import Derived.Test.YtnakejhohdbfdacGreatDoorMbj
set_option maxHeartbeats 4000000
set_option maxRecDepth 10000
namespace Go.Proofs.YtnakejhohdbfdacGreatDoor
open Go.RowKit j9 Lay pS Go.Proofs.Tryz
abbrev kL (P:Nat)(ao:Int)(ab:Bool)(fo:Int)(fb aim:Bool)(goal:Int):Array Value:=#[.pointer (some ⟨P,0,none⟩),.int .i64 ao,.bool ab,.int .i64 fo,.bool fb,.bool aim,.int .i64 goal]
abbrev SL (ao:Int)(ab:Bool)(fo:Int)(fb:Bool)(a1 a2 gx b1 b2 c1 c2:Int)(v:Value)(moved:Bool):Array Value:=#[.int .i64 ao,.bool ab,.int .i64 fo,.bool fb,.int .i64 a1,.int .i64 a2,.int .i64 gx,.int .i64 b1,.int .i64 b2,.int .i64 c1,.int .i64 c2,v,.bool moved]
theorem M6 (Z P:Nat)(ao fo goal a1 a2 gx b1 b2 c1 c2:Int)(ab fb aim moved:Bool)(M:List MV)(w:World)(hZ:w.heap[Z]?=some (.cells (kL P ao ab fo fb aim goal) 134 (0,0)))
 (hG:∀Y,Fr [] w Y->Calls prog 62 #[.pointer (some ⟨P,0,none⟩),.agg #[.int .i64 fo,.bool fb]] Y fun e w'=>e=.returned (.agg #[.int .i64 a1,.int .i64 a2])/\Fr [] Y w')
 (hX:∀Y,Fr [] w Y->Calls prog 63 #[.pointer (some ⟨P,0,none⟩),.agg #[.int .i64 fo,.bool fb]] Y fun e w'=>e=.returned (.int .i64 gx)/\Fr [] Y w')
 (hB:∀Y,Fr [] w Y->Calls prog 62 #[.pointer (some ⟨P,0,none⟩),.agg #[.int .i64 fo,.bool true]] Y fun e w'=>e=.returned (.agg #[.int .i64 b1,.int .i64 b2])/\Fr [] Y w')
 (hC:∀Y,Fr [] w Y->Calls prog 62 #[.pointer (some ⟨P,0,none⟩),.agg #[.int .i64 fo,.bool false]] Y fun e w'=>e=.returned (.agg #[.int .i64 c1,.int .i64 c2])/\Fr [] Y w')
 (hS:∀Y,Fr [] w Y->Calls prog 64 #[.pointer (some ⟨P,0,none⟩),.int .i64 ao,.int .i64 fo] Y fun e w'=>∃v,e=.returned v/\w'.ownsRow Y.heap.size 251 5 v M.length (jH M)/\Fr [] Y w') :
 Calls prog 31 #[.pointer (some ⟨Z,0,none⟩),.bool moved] w fun e w'=>∃v,e=.returned (.agg (SL ao ab fo fb a1 a2 gx b1 b2 c1 c2 v moved))/\w'.ownsRow w.heap.size 251 5 v M.length (jH M)/\Fr [] w w':=by
 have HZ:=hid hZ;have HG:=hid hG;have HX:=hid hX;have HB:=hid hB;have HC:=hid hC;have HS:=hid hS;have z0:=iG hZ (i:=0) (v:=.pointer (some ⟨P,0,none⟩)) rfl;have z1:=iG hZ (i:=1) (v:=.int .i64 ao) rfl;have z2:=iG hZ (i:=2) (v:=.bool ab) rfl;have z3:=iG hZ (i:=3) (v:=.int .i64 fo) rfl;have z4:=iG hZ (i:=4) (v:=.bool fb) rfl;have Mp:=iO hZ;clear hZ hG hX hB hC hS;obtain⟨wb,hwb⟩:∃wb,wb=w.alloc (.cells #[.int .i64 0,.bool false,.int .i64 0,.bool false,.int .i64 0,.int .i64 0,.int .i64 0,.int .i64 0,.int .i64 0,.int .i64 0,.int .i64 0,.slice none 0 0,.bool false] 31):=⟨_,rfl⟩;have j8:=hid (show Fr [] w wb by rw[hwb];exact(Fr.refl [] w).alloc _);have yF:=hid (show wb.heap[w.heap.size]?=some (.cells #[.int .i64 0,.bool false,.int .i64 0,.bool false,.int .i64 0,.int .i64 0,.int .i64 0,.int .i64 0,.int .i64 0,.int .i64 0,.int .i64 0,.slice none 0 0,.bool false] 31 (0,0)) by rw[hwb];exact iL w _);have NQ:=hid hwb;clear hwb;go_enter func31,ntmps31;go_wp2_with fail;rw[<-NQ.out];have y0:=j8.out.cell z0 aj;have y3:=j8.out.cell z3 aj;go_quiet (fail);obtain⟨w1,hw1⟩:∃w1,w1=wb.drewN nq:=⟨_,rfl⟩;have jc:=hid (show Fr [] wb w1 by rw[hw1];exact jf _ _);rw[<-hw1];clear hw1 y0 y3;have nH:=hid (j8.out.trans jc.out);have x0:=nH.out.cell z0 aj;have x1:=nH.out.cell z1 aj;have x2:=nH.out.cell z2 aj;have x3:=nH.out.cell z3 aj;have x4:=nH.out.cell z4 aj;clear z0 z1 z2 z3 z4;go_wp2_with fail;have UG:=hid (fun(wz:World) (hf:Fr [] w1 wz)=>show wz.cell? ⟨Z,0,none⟩=some (.pointer (some ⟨P,0,none⟩))/\wz.cell? ⟨Z,1,none⟩=some (.int .i64 ao)/\wz.cell? ⟨Z,2,none⟩=some (.bool ab)/\wz.cell? ⟨Z,3,none⟩=some (.int .i64 fo)/\wz.cell? ⟨Z,4,none⟩=some (.bool fb)from⟨hf.cell x0 aj,hf.cell x1 aj,hf.cell x2 aj,hf.cell x3 aj,hf.cell x4 aj⟩);have HZ1:=hid (iJ HZ.out nH.out aj)
 have HKZ:=hid (fun(wz:World) (hf:Fr [] w wz)=>show wz.cell? ⟨Z,0,none⟩=some (.pointer (some ⟨P,0,none⟩))/\wz.cell? ⟨Z,1,none⟩=some (.int .i64 ao)/\wz.cell? ⟨Z,2,none⟩=some (.bool ab)/\wz.cell? ⟨Z,3,none⟩=some (.int .i64 fo)/\wz.cell? ⟨Z,4,none⟩=some (.bool fb)from
  have hz:=iJ HZ.out hf aj
  ⟨iG hz (i:=0) rfl,iG hz (i:=1) rfl,iG hz (i:=2) rfl,iG hz (i:=3) rfl,iG hz (i:=4) rfl⟩)
 go_region_held (fun wz=>wz.cell? ⟨Z,0,none⟩=some (.pointer (some ⟨P,0,none⟩))/\wz.cell? ⟨Z,1,none⟩=some (.int .i64 ao)/\wz.cell? ⟨Z,2,none⟩=some (.bool ab)/\wz.cell? ⟨Z,3,none⟩=some (.int .i64 fo)/\wz.cell? ⟨Z,4,none⟩=some (.bool fb)) (first | with_reducible exact l9 | with_reducible exact HKZ.out _ HKK.out | go_keep)
  (first
    | (go_at_call 62;have hq:=Hw4;clear hq;refine(HC.out _ ?fa).mono ?_;(case fa=>exact nH.out.trans Hw4.out);rintro e w5 ⟨rfl,hf⟩;have ZP:=hid (show Fr [] w1 w5 from Hw4.out.trans hf);have l9:=UG.out _ ZP.out;clear hf)
    | (go_at_call 62;have hq:=Ri;clear hq;refine(HB.out _ ?fa).mono ?_;(case fa=>exact nH.out.trans Ri.out);rintro e w4 ⟨rfl,hf⟩;have Hw4:=hid (show Fr [] w1 w4 from Ri.out.trans hf);have l9:=UG.out _ Hw4.out;clear hf)
    | (go_at_call 62;refine(HG.out _ ?fa).mono ?_;(case fa=>exact nH.out.drew);rintro e w2 ⟨rfl,hf⟩;have JG:=hid (show Fr [] w1 w2 from Fr.trans (Fr.refl [] w1).drew hf);have l9:=UG.out _ JG.out;clear hf)
    | (go_at_call 63;refine(HX.out _ ?fa).mono ?_;(case fa=>exact nH.out.trans JG.out);rintro e w3 ⟨rfl,hf⟩;have Ri:=hid (show Fr [] w1 w3 from JG.out.trans hf);have l9:=UG.out _ Ri.out;clear hf)
    | (go_at_call 64;refine(HS.out _ ?fa).mono ?_;(case fa=>exact nH.out.trans ZP.out);rintro e w6 ⟨vS,rfl,M5,hf⟩;obtain⟨aS,cS,AH⟩:=iW M5;subst AH;have HW6:=hid (show Fr [] w1 w6 from ZP.out.trans hf);have lu:=hid (nH.out.trans HW6.out);have Jo:=hid M5;have l9:=UG.out _ HW6.out;have ql:=hid (iJ yF.out (jc.out.trans HW6.out) aj);have r0:=iG ql.out (i:=0) (v:=.int .i64 0) rfl;have k0:=iH ql.out 0;have r1:=iG ql.out (i:=1) (v:=.bool false) rfl;have k1:=iH ql.out 1;have r2:=iG ql.out (i:=2) (v:=.int .i64 0) rfl;have k2:=iH ql.out 2;have r3:=iG ql.out (i:=3) (v:=.bool false) rfl;have k3:=iH ql.out 3;have r4:=iG ql.out (i:=4) (v:=.int .i64 0) rfl;have k4:=iH ql.out 4;have r5:=iG ql.out (i:=5) (v:=.int .i64 0) rfl;have k5:=iH ql.out 5;have r6:=iG ql.out (i:=6) (v:=.int .i64 0) rfl;have k6:=iH ql.out 6;have r7:=iG ql.out (i:=7) (v:=.int .i64 0) rfl;have k7:=iH ql.out 7;have r8:=iG ql.out (i:=8) (v:=.int .i64 0) rfl;have k8:=iH ql.out 8;have r9:=iG ql.out (i:=9) (v:=.int .i64 0) rfl;have k9:=iH ql.out 9;have Ig:=iG ql.out (i:=10) (v:=.int .i64 0) rfl;have k10:=iH ql.out 10;have Ih:=iG ql.out (i:=11) (v:=.slice none 0 0) rfl;have k11:=iH ql.out 11;have Ii:=iG ql.out (i:=12) (v:=.bool false) rfl;have k12:=iH ql.out 12;have HKK:=hid (Fr.iK (b:=w.heap.size) (i:=12) (v:=.bool moved) (Fr.iK (b:=w.heap.size) (i:=11) (v:=.slice aS M.length cS) (Fr.iK (b:=w.heap.size) (i:=10) (v:=.int .i64 c2) (Fr.iK (b:=w.heap.size) (i:=9) (v:=.int .i64 c1) (Fr.iK (b:=w.heap.size) (i:=8) (v:=.int .i64 b2) (Fr.iK (b:=w.heap.size) (i:=7) (v:=.int .i64 b1) (Fr.iK (b:=w.heap.size) (i:=6) (v:=.int .i64 gx) (Fr.iK (b:=w.heap.size) (i:=5) (v:=.int .i64 a2) (Fr.iK (b:=w.heap.size) (i:=4) (v:=.int .i64 a1) (Fr.iK (b:=w.heap.size) (i:=3) (v:=.bool fb) (Fr.iK (b:=w.heap.size) (i:=2) (v:=.int .i64 fo) (Fr.iK (b:=w.heap.size) (i:=1) (v:=.bool ab) (Fr.iK (b:=w.heap.size) (i:=0) (v:=.int .i64 ao) lu.out (au _)) (au _)) (au _)) (au _)) (au _)) (au _)) (au _)) (au _)) (au _)) (au _)) (au _)) (au _)) (au _));have yG:=hid (Fr.set (b:=w.heap.size) (i:=12) (Fr.set (b:=w.heap.size) (i:=11) (Fr.set (b:=w.heap.size) (i:=10) (Fr.set (b:=w.heap.size) (i:=9) (Fr.set (b:=w.heap.size) (i:=8) (Fr.set (b:=w.heap.size) (i:=7) (Fr.set (b:=w.heap.size) (i:=6) (Fr.set (b:=w.heap.size) (i:=5) (Fr.set (b:=w.heap.size) (i:=4) (Fr.set (b:=w.heap.size) (i:=3) (Fr.set (b:=w.heap.size) (i:=2) (Fr.set (b:=w.heap.size) (i:=1) (Fr.set (b:=w.heap.size) (i:=0) (Fr.refl [w.heap.size] w6) (ak.2 rfl) (.int .i64 ao)) (ak.2 rfl) (.bool ab)) (ak.2 rfl) (.int .i64 fo)) (ak.2 rfl) (.bool fb)) (ak.2 rfl) (.int .i64 a1)) (ak.2 rfl) (.int .i64 a2)) (ak.2 rfl) (.int .i64 gx)) (ak.2 rfl) (.int .i64 b1)) (ak.2 rfl) (.int .i64 b2)) (ak.2 rfl) (.int .i64 c1)) (ak.2 rfl) (.int .i64 c2)) (ak.2 rfl) (.slice aS M.length cS)) (ak.2 rfl) (.bool moved));have hlow:=iO (iJ yF.out (jc.out.trans ZP.out) aj);have vg:=hid (iU (kC Jo.out yG.out (fun g hg hm=>by have h2:=ak.1 hm;have h3:=(Jo.out.lt g hg).1;omega)) (b7 hlow));clear hf M5 hlow))
 all_goals (
  go_wp2
  refine fE (fH (t:=31) (fr:=(0,0)) rfl _ _ w.heap.size _ _ rfl (iI (iI (iI (iI (iI (iI (iI (iI (iI (iI (iI (iI (iI ql.out 0 _) 1 _) 2 _) 3 _) 4 _) 5 _) 6 _) 7 _) 8 _) 9 _) 10 _) 11 _) 12 _) underlying31 rfl (by kernel_rfl)) rfl ?_
  refine⟨.slice aS M.length cS,by simp,vg.out,HKK.out⟩)
theorem vA.JH {Bd V:List Int}{z:Int}{Ls:List Ln}(F:vA Bd V z Ls)(Dr:0<Ls.length)(off:Int)(back:Bool):(oJ Bd V z Ls off back).1<Ls.length/\(oJ Bd V z Ls off back).2<=(kF Ls (oJ Bd V z Ls off back).1).o.length:=by
 by_cases hV:V.length=0
 ·have h1:oJ Bd V z Ls off back=(0,0):=by unfold oJ;rw[aE hV]
  rw[h1];exact⟨Dr,aN _⟩
 ·obtain⟨c,i,k,_,e1,_,hi,hk⟩:=F.gap (by omega) off back
  rw[Fe (by omega) e1 hi hk];refine⟨hi.1,?_⟩;have:=hk.1;dsimp only;split <;> omega
theorem Rj (s:ByteArray)(b:Int)(W Br:List Int)(n:Nat)(hend:Dec.Ends s n)(hBl:Br.length<=5000)(hck:Tm s n (zY s n) b W Br=0):∃Bd V X r bs Cs Ls,Twin s b W Br Bd V X r bs Cs Ls/\DG Bd V Ls/\vA Bd V (s.size:Nat) Ls/\(V.length=0->Ls.length=1)/\(0<V.length->rP s n Br/\0<n/\(bs=0\/bs=1)/\Bd=bnd s n/\V=Ie s n bs Br/\Ls=Ic s n bs W Br (Br.length+1))/\Bd=bnd s n/\(-1<=r/\r<=1):=by
 obtain⟨hs,hb⟩:=MP hck;obtain⟨Yq,hw,hbr⟩:=CT hend hs hb hck;by_cases hn:0<n
 ·have hE:=Gx hend hn Br hbr
  have Jb:n<=400:=by have:=Dec.lV s n;have:=hend.1;omega
  have hcn:cn s n<=400:=by have:=jA s n;unfold cn;omega
  have hB4:Br.length+1<=400:=by
   have h1:=KL hE (Br.length+1) (au _);have h2:=hE.le (Br.length+1) (au _);unfold kV at h1;omega
  have hvl:(Ie s n (j0 (Kl s n) b) Br).length=cn s n:=by rw[Ie,uV,<-oU hn]
  have hc0:0<cn s n:=by
   have h1:=KL hE (Br.length+1) (au _);have h2:=hE.le (Br.length+1) (au _);unfold kV at h1;omega
  have hWB:∀i,0<=nth W i/\nth W i<=1073741824:=fun i=>by
   by_cases hi:i<n
   ·exact O3 hw hi
   ·rw[rT (by omega)];decide
  refine⟨bnd s n,Ie s n (j0 (Kl s n) b) Br,wl s W n,1 - 2 * j0 (Kl s n) b,j0 (Kl s n) b,Yy (Dec.pos s) (iP (jd s n)) (AO s n (j0 (Kl s n) b) Br) W (cn s n),Ic s n (j0 (Kl s n) b) W Br (Br.length+1),?_,Q4 hn Jb (nu hb) hWB hE hcn,Q9 hend hn hE,fun h=>by omega,fun _=>⟨hE,hn,nu hb,rfl,rfl,rfl⟩,rfl,by rcases nu (K:=Kl s n) hb with h | h <;> rw[h] <;> decide⟩
  exact {
   vx:=by rw[hvl,tO,<-oU hn]
   bd:=by have:=(jA s n).2.1;rw[hvl,lJ hend];unfold cn;omega
   vl:=by rw[hvl];exact hcn
   cs:=by rw[hvl];exact Q3 hend hn (nu hb) W Br
   l0:=by rw[qG];omega
   l1:=by rw[qG];exact hB4
   ll:=MO hE hcn _ W
   p:=fun w vW vB hF h1 h2=>QD s b vW vB W Br n w hs hb hF hend hn h1 h2 hBl hck }
 ·obtain rfl:n=0:=by omega
  have hs0:s.size=0:=hend.1.symm;have Yz:=Q0 hs0 hbr;subst Yz;refine⟨[0],[],[],1 - 2 * j0 [] b,j0 [] b,[],[QX],?_,Q5,by rw[hs0];exact Q_,fun _=>rfl,fun h=>absurd h (by decide),(KM hs0).symm,by rcases nu (K:=[]) hb with h | h <;> rw[h] <;> decide⟩
  exact {
   vx:=rfl
   bd:=rfl
   vl:=by decide
   cs:=rfl
   l0:=by decide
   l1:=by decide
   ll:=fun l hl=>by rw[ak.1 hl];decide
   p:=fun w vW vB hF h1 h2=>Q1 s b vW vB W [] w hs0 hb hF h1 h2 hck }
def near (x hi:Int):Int:=if x<0 then 0 else if hi<x then hi else x
theorem Bh {x hi:Int}(h:0<=hi):0<=near x hi/\near x hi<=hi:=by unfold near;split <;> (try split) <;> omega
def nM (Bd V:List Int)(c:Nat)(right:Bool):Int × Bool:=if right=(nth V c % 2 == 1)then(nth Bd c,false)else(nth Bd (c+1),true)
def ko (Bd V:List Int)(Ls:List Ln)(line gap:Int):Int × Bool :=
 let o:=(kF Ls (near line (Ls.length - 1)).toNat).o
 let k:=(near gap o.length).toNat
 if o.length=0 then(0,false)else if k=0 then nM Bd V (iP o 0) false else nM Bd V (iP o (k - 1)) true
def ku (X:List Int)(x:Int):Nat->Nat
 | 0=>0
 | k+1=>if(nth X k - x).natAbs<(nth X (ku X x k) - x).natAbs then k else ku X x k
theorem zE (X:List Int)(x:Int):∀k,0<k->ku X x k<k
 | 0,h=>by omega
 | k+1,_=>by
   rw[ku];split
   ·omega
   ·rcases bO k with h | h
    ·subst h;exact Nat.one_pos
    ·have:=zE X x k h;omega
theorem Au {X:List Int}{x hi:Int}(h:∀k,k<X.length->0<=nth X k/\nth X k<=hi):∀k,k<=X.length->ku X (near x hi) k=ku X x k
 | 0,_=>rfl
 | k+1,hk=>by
   have ih:=Au (x:=x) h k (by omega);rw[ku,ku,ih];have h1:=h k (by omega);have h2:0<=nth X (ku X x k)/\nth X (ku X x k)<=hi:=by
    rcases bO k with h0 | h0
    ·subst h0;exact h 0 (by omega)
    ·exact h _ (by have:=zE X x k h0;omega)
   have e:((nth X k - near x hi).natAbs<(nth X (ku X x k) - near x hi).natAbs) ↔ ((nth X k - x).natAbs<(nth X (ku X x k) - x).natAbs):=by
    unfold near;split
    ·omega
    ·split <;> omega
   by_cases hc:(nth X k - x).natAbs<(nth X (ku X x k) - x).natAbs
   ·rw[aE hc,aE (e.2 hc)]
   ·rw[ay hc,ay (fun hh=>hc (e.1 hh))]
def vC (Bd V:List Int)(Ls:List Ln)(line x:Int):Int × Bool :=
 let X:=(kF Ls (near line (Ls.length - 1)).toNat).x
 ko Bd V Ls (near line (Ls.length - 1)) (ku X x X.length:Nat)
theorem KQ (x hi:Int)(h:0<=hi):min (max x 0) hi=near x hi:=by unfold near;split <;> (try split) <;> omega
theorem zF (x hi:Int)(w:World)(h:0<=hi):Calls prog 159 #[.int .i64 x,.int .i64 hi] w fun e w'=>e=.returned (.int .i64 (near x hi))/\w'=w:=by
 rw[<-KQ x hi h];go_enter func159,ntmps159;go_wp2;go_ret;exact⟨rfl,rfl⟩
theorem zG (a:Option Addr)(K c:Nat)(x:Int)(w:World)(h0:0<K)(hK:K<=100000):Calls prog 127 #[.slice a K c,.int .i64 x] w fun e w'=>e=.returned (.int .i64 (near x ((K:Int) - 1)))/\w'=w:=by
 have HC:=hid (fun X:World=>zF x ((K:Int) - 1) X (by omega));have hw1:IntKind.i64.wrap ((K:Int) - 1)=(K:Int) - 1:=by rw[fM];omega
 generalize near x ((K:Int) - 1)=y at *;go_enter func127,ntmps127;go_wp2_with (go_at_call 159;refine(HC.out _).mono ?_;rintro e w' ⟨rfl,rfl⟩);go_ret;exact⟨rfl,rfl⟩
theorem Rk (a b:Int)(w:World)(ha:-1000000000000000000<=a/\a<=1000000000000000000)(hb:-1000000000000000000<=b/\b<=1000000000000000000):Calls prog 161 #[.int .i64 a,.int .i64 b] w fun e w'=>e=.returned (.int .i64 ((a - b).natAbs:Nat))/\w'=w:=by
 have HE:=hid (show max (a - b) (b - a)=((a - b).natAbs:Nat) by omega);have hw1:IntKind.i64.wrap (a - b)=a - b:=by rw[fM];omega
 have hw2:IntKind.i64.wrap (b - a)=b - a:=by rw[fM];omega
 rw[<-HE.out];go_enter func161,ntmps161;go_wp2;go_ret;exact⟨rfl,rfl⟩
theorem G3 (X:List Int)(x hi:Int)(g m c:Nat)(w:World)(hm:m=X.length)(hm0:0<m)(hm1:m<=100000)(hr:rowAt w g m X)(hX:∀k,k<X.length->0<=nth X k/\nth X k<=hi)(hl:nth X (m - 1)=hi)(hhi:hi<=1000000000000000) :
 Calls prog 129 #[.slice (some ⟨g,0,none⟩) m c,.int .i64 x] w fun e w'=>e=.returned (.int .i64 (ku X x m:Nat))/\Fr [] w w':=by
 have hhi0:0<=hi:=by have:=hX (m - 1) (by omega);omega
 have Wq:=hid (show ku X (near x hi) m=ku X x m by rw[hm];exact Au hX _ (au _));have hni:=Bh (x:=x) hhi0;have Fq:=hid (KQ x hi hhi0);have c0:=hr (m - 1) (by omega);rw[hl]at c0;have HR:=hid hr;have HXB:=hid (show ∀k,k<m->0<=nth X k/\nth X k<=hi by rw[hm];exact hX);rw[<-Wq.out];have hw1:IntKind.i64.wrap ((m:Int) - 1)=((m - 1:Nat):Int):=by rw[fM];omega
 have hlt1:((m - 1:Nat):Int)<(m:Int):=by omega
 generalize hx':near x hi=x' at *;obtain⟨m1,abX⟩:∃m1,m1=m - 1:=⟨_,rfl⟩;rw[<-abX]at c0 hw1 hlt1;clear hX hr hm hl hx' abX;go_enter func129,ntmps129;go_wp2_with fail;rw[Fq.out];go_loopw [5,19] (fun vb vk wr=>∃k:Nat,vk=.int .i64 k/\k<=m/\vb=.int .i64 (ku X x' k:Nat)/\Hid (∃q,wr=w.drewN q)) (fun _ vk _=>m - (intOf vk).toNat)
 case atStart=>exact⟨0,rfl,aN _,rfl,hid ⟨0,rfl⟩⟩
 case round =>
  obtain⟨k,rfl,hk,rfl,HQ⟩:=hrel;have HF:=hid (show Fr [] w wr by obtain⟨q,h⟩:=HQ.out;rw[h];exact jf w q);by_cases hlt:k<m
  ·have wX:(k:Int)<(m:Int):=by omega
   have Ug:=hid (show ku X x' k<m by
    rcases bO k with h | h
    ·subst h;exact hm0
    ·have:=zE X x' k h;omega)
   have HST:=hid (show ku X x' (k+1)=if(nth X k - x').natAbs<(nth X (ku X x' k) - x').natAbs then k else ku X x' k from rfl);have c1:=HF.out.cell (HR.out k hlt) aj;have c2:=HF.out.cell (HR.out _ Ug.out) aj;have b1:=HXB.out k hlt;have b2:=HXB.out _ Ug.out;have hBI:((ku X x' k:Nat):Int)<(m:Int):=by have:=Ug.out;omega
   obtain⟨B2,hB2⟩:∃B2,B2=ku X x' (k+1):=⟨_,rfl⟩;rw[<-hB2]at HST;have Fy:=hid hB2;clear hB2;generalize ku X x' k=B1 at *;generalize nth X k=y1 at *;generalize nth X B1=y2 at *;have HD:=hid (fun(a:Int) (Y:World) (h0:0<=a/\a<=hi)=>Rk a x' Y (by omega) (by omega));by_cases hc:(y1 - x').natAbs<(y2 - x').natAbs
   ·have hcI:(((y1 - x').natAbs:Nat):Int)<(((y2 - x').natAbs:Nat):Int):=by omega
    have HB2:=hid (show B2=k by rw[HST.out,aE hc]);have Rm:=hid (And.intro b1 b2);clear b1 b2 HST;go_wp2_with fail;go_quiet (first | (go_at_call 161;exact gY (HD.out _ _ (by first | exact Rm.out.1 | exact Rm.out.2))));go_wp2;go_roundw
    case rel=>exact⟨k+1,by go_num,by omega,by rw[<-Fy.out,HB2.out],hid (by obtain⟨q,h⟩:=HQ.out;exact⟨q+nq,by rw[h,World.drewN_drewN]⟩)⟩
    case measure=>simp[intOf];omega
   ·have hcI:¬(((y1 - x').natAbs:Nat):Int)<(((y2 - x').natAbs:Nat):Int):=by omega
    have hcd:decide ((((y1 - x').natAbs:Nat):Int)<(((y2 - x').natAbs:Nat):Int))=false:=by simpa using hcI
    have HB2:=hid (show B2=B1 by rw[HST.out,ay hc]);have Rm:=hid (And.intro b1 b2);clear b1 b2 HST;go_wp2_with fail;go_quiet (first | (go_at_call 161;exact gY (HD.out _ _ (by first | exact Rm.out.1 | exact Rm.out.2))));go_wp2;go_roundw
    case rel=>exact⟨k+1,by go_num,by omega,by rw[<-Fy.out,HB2.out],hid (by obtain⟨q,h⟩:=HQ.out;exact⟨q+nq,by rw[h,World.drewN_drewN]⟩)⟩
    case measure=>simp[intOf];omega
  ·obtain rfl:k=m:=by omega
   have wX:¬(k:Int)<(k:Int):=by omega
   go_wp2;go_ret;exact⟨rfl,HF.out⟩
theorem Rn (Bd V:List Int)(gB cB nB gV nV cV c:Nat)(v2:Value)(right:Bool)(w:World)(hc:c<nV)(hn:nB=nV+1)(hB:rowAt w gB nB Bd)(hV:rowAt w gV nV V)(h0:0<=nth V c)(hn1:nV<=1000) :
 Calls prog 160 #[.agg #[.slice (some ⟨gB,0,none⟩) nB cB,.slice (some ⟨gV,0,none⟩) nV cV,v2],.int .i64 (c:Nat),.bool right] w fun e w'=>e=.returned (.agg #[.int .i64 (nM Bd V c right).1,.bool (nM Bd V c right).2])/\Fr [] w w':=by
 obtain⟨w2,hw2⟩:∃w2,w2=(w.alloc (.cells #[.slice (some ⟨gB,0,none⟩) nB cB,.slice (some ⟨gV,0,none⟩) nV cV,v2] 146)).alloc (.cells #[.int .i64 0,.bool false] 26):=⟨_,rfl⟩;have i_:=hid (show Fr [] w w2 by rw[hw2];exact((Fr.refl [] w).alloc _).alloc _);have lT:=hid (show w2.heap[w.heap.size]?=some (.cells #[.slice (some ⟨gB,0,none⟩) nB cB,.slice (some ⟨gV,0,none⟩) nV cV,v2] 146 (0,0)) by rw[hw2];exact iJ (iL w _) ((Fr.refl [] _).alloc _) aj)
 have jO:=hid (show w2.heap[w.heap.size+1]?=some (.cells #[.int .i64 0,.bool false] 26 (0,0)) by
  have h:=iL (w.alloc (.cells #[.slice (some ⟨gB,0,none⟩) nB cB,.slice (some ⟨gV,0,none⟩) nV cV,v2] 146)) (.cells #[.int .i64 0,.bool false] 26)
  rw[<-hw2]at h;simpa using h)
 have Rb:=hid (Cy V gV nV cV c (.slice (some ⟨gB,0,none⟩) nB cB) v2 w2 hc (hV.fr i_.out aj) h0);have HB:=hid hB;obtain⟨x,y,hxy⟩:∃x y,nM Bd V c right=(x,y):=⟨_,_,rfl⟩;have KR:=hid hxy;rw[hxy];have k0:=iG lT.out (i:=0) (v:=.slice (some ⟨gB,0,none⟩) nB cB) rfl;have k1:=iG lT.out (i:=1) (v:=.slice (some ⟨gV,0,none⟩) nV cV) rfl;have k2:=iG lT.out (i:=2) (v:=v2) rfl;have HN:=hid hn;have hb1:c<nB/\c+1<nB:=by omega
 clear hB hV hxy h0 hn;go_enter func160,ntmps160;go_wp2_with fail;rw[<-hw2];clear hw2;refine Rb.out.mono ?_;rintro e w3 ⟨rfl,hf3⟩;have jQ:=hid (i_.out.trans hf3);have Uj:=hid (iJ lT.out hf3 aj);have CO:=hid (iJ jO.out hf3 aj);clear k0 k1 k2 hf3 Rb;have k0:=iG Uj.out (i:=0) (v:=.slice (some ⟨gB,0,none⟩) nB cB) rfl;have z0:=iG CO.out (i:=0) (v:=.int .i64 0) rfl;have z1:=iG CO.out (i:=1) (v:=.bool false) rfl;have f0:=iH CO.out 0;have f1:=iH CO.out 1;have c0:=jQ.out.cell (HB.out c hb1.1) aj;have c1:=jQ.out.cell (HB.out (c+1) hb1.2) aj;have hcI:(c:Int)<(nB:Int):=by omega
 have ajI:(c:Int)+1<(nB:Int):=by omega
 have hS:right=(nth V c % 2 == 1)->x=nth Bd c/\y=false:=fun h=>by
  have e:=KR.out;rw[nM,aE h]at e;cases e;exact⟨rfl,rfl⟩
 have hS':¬right=(nth V c % 2 == 1)->x=nth Bd (c+1)/\y=true:=fun h=>by
  have e:=KR.out;rw[nM,ay h]at e;cases e;exact⟨rfl,rfl⟩
 have s8:=hid (fun(x:Int) (y:Bool)=>(show((w3.setCell ⟨w.heap.size+1,0,none⟩ (.int .i64 x)).setCell ⟨w.heap.size+1,1,none⟩ (.bool y)).heap[w.heap.size+1]?=some (.cells #[.int .i64 x,.bool y] 26 (0,0))from iI (iI CO.out 0 _) 1 _));have Fz:=hid (fun(x:Int) (y:Bool)=>(show Fr [] w ((w3.setCell ⟨w.heap.size+1,0,none⟩ (.int .i64 x)).setCell ⟨w.heap.size+1,1,none⟩ (.bool y))from jQ.out.behind ((jT _ _ _ _).set (ak.2 rfl) _) (fun k hk=>by rw[ak.1 hk];omega)));generalize (nth V c % 2 == 1)=od at *;generalize nth Bd c=y0 at *;generalize nth Bd (c+1)=y1 at *;clear hb1;by_cases hr:right=od
 ·obtain⟨rfl,rfl⟩:=hS hr
  subst hr;clear hS hS' KR;go_wp2_with fail;refine fE (fH (t:=26) (fr:=(0,0)) rfl _ _ (w.heap.size+1) _ _ rfl (s8.out _ _) underlying26 rfl (by kernel_rfl)) rfl ?_;exact⟨rfl,Fz.out _ _⟩
 ·obtain⟨rfl,rfl⟩:=hS' hr
  have hr2:(right == od)=false:=by simpa using hr
  clear hS hS' KR;go_wp2_with fail;refine fE (fH (t:=26) (fr:=(0,0)) rfl _ _ (w.heap.size+1) _ _ rfl (s8.out _ _) underlying26 rfl (by kernel_rfl)) rfl ?_;exact⟨rfl,Fz.out _ _⟩
theorem um {x:Int}{m:Nat}:∃k:Nat,near x (m:Int)=(k:Int)/\k<=m:=by
 have h:=Bh (x:=x) (hi:=(m:Int)) (by omega);exact⟨(near x m).toNat,by omega,by omega⟩
theorem Ej (B P:Nat)(Bd V X:List Int)(r:Int)(Ls:List Ln)(v0 v1 v2 vL:Value)(hs:List Value)(line gap:Int)(w:World)(h:LP w B P Bd V X r Ls v0 v1 v2 vL hs)(T:DG Bd V Ls)(hbd:Bd.length=V.length+1)(hv4:V.length<=400)(Dr:0<Ls.length)(hK:Ls.length<=400)(hlo:∀l∈Ls,l.o.length<=1000) :
 Calls prog 128 #[.pointer (some ⟨P,0,none⟩),.agg #[.int .i64 line,.int .i64 gap]] w fun e w'=>e=.returned (.agg #[.int .i64 (ko Bd V Ls line gap).1,.bool (ko Bd V Ls line gap).2])/\Fr [] w w':=by
 obtain⟨i,hi,hiK⟩:=um (x:=line) (m:=Ls.length - 1);have hi':near line ((Ls.length:Int) - 1)=(i:Int):=by rw[<-hi];congr 1;omega
 have hil:i<Ls.length:=by omega
 obtain⟨k,hk,hkl⟩:=um (x:=gap) (m:=(kF Ls i).o.length)
 have UI:=hid (show ko Bd V Ls line gap=if(kF Ls i).o.length=0 then(0,false)else if k=0 then nM Bd V (iP (kF Ls i).o 0) false else nM Bd V (iP (kF Ls i).o (k - 1)) true by
  unfold ko;dsimp only;rw[hi',Int.toNat_natCast,hk,Int.toNat_natCast])
 obtain⟨U,_,hn⟩:=h.n;obtain⟨vO,vX,_,_,a3,_,a5,_⟩:=hn i _ (qH hil);obtain⟨gL,cL,DE⟩:=iQ Dr h.l;subst DE;obtain⟨aO,cO,MU⟩:=iW a5;subst MU;have GP:=T.ob _ (ny hil);have hlo1:=hlo _ (ny hil);have G4:=hid (fun Y:World=>zG (some ⟨gL,0,none⟩) Ls.length cL line Y Dr (by omega));have Fh:=hid (fun Y:World=>zF gap (((kF Ls i).o.length:Nat):Int) Y (by omega));rw[hi']at G4;rw[hk]at Fh;have E3:=hid T.vb;have HVO:=hid a5;have GA:=hid h;have AF:=hid GP;have c3:w.cell? ⟨gL,i * 4+2,none⟩=some (.slice aO (kF Ls i).o.length cO):=by rw[h.l.cellAt _ (by omega)];exact a3
 have p3:=iG h.o (i:=3) (v:=.slice (some ⟨gL,0,none⟩) Ls.length cL) rfl;have za:=iO h.o;have hgl:=fC _ _ c3;dsimp only at hgl;obtain⟨x,y,hxy⟩:∃x y,ko Bd V Ls line gap=(x,y):=⟨_,_,rfl⟩;rw[hxy]at UI ⊢;obtain⟨o,ho⟩:∃o,o=(kF Ls i).o:=⟨_,rfl⟩;rw[<-ho]at UI HVO Fh AF c3 hkl hlo1;obtain⟨lo,YF⟩:∃lo,lo=o.length:=⟨_,rfl⟩;have NR:=hid YF;rw[<-YF]at UI HVO Fh c3 hkl hlo1;obtain⟨K,hK'⟩:∃K,K=Ls.length:=⟨_,rfl⟩;rw[<-hK']at G4 p3 Dr hK hil;obtain⟨w2,hw2⟩:∃w2,w2=(w.alloc (.cells #[.int .i64 line,.int .i64 gap] 28)).alloc (.cells #[.int .i64 0,.bool false] 26):=⟨_,rfl⟩;have i_:=hid (show Fr [] w w2 by rw[hw2];exact((Fr.refl [] w).alloc _).alloc _);have lT:=hid (show w2.heap[w.heap.size]?=some (.cells #[.int .i64 line,.int .i64 gap] 28 (0,0)) by rw[hw2];exact iJ (iL w _) ((Fr.refl [] _).alloc _) aj)
 have jO:=hid (show w2.heap[w.heap.size+1]?=some (.cells #[.int .i64 0,.bool false] 26 (0,0)) by
  have h:=iL (w.alloc (.cells #[.int .i64 line,.int .i64 gap] 28)) (.cells #[.int .i64 0,.bool false] 26)
  rw[<-hw2]at h;simpa using h)
 have ZH:=hid (i_.out.cell p3 aj);have ZI:=hid (i_.out.cell c3 aj);have y_:(i:Int)<(K:Int):=by omega
 have XG:=hid hbd;clear h T hbd hn a3 a5 hi hi' hk hxy ho YF hK' GP hlo c3 p3;go_enter func128,ntmps128;go_wp2_with fail;rw[<-hw2];clear hw2;have b0:=iG lT.out (i:=0) (v:=.int .i64 line) rfl;have b1:=iG lT.out (i:=1) (v:=.int .i64 gap) rfl;have p3:=ZH.out;have c3:=ZI.out;go_quiet (first | (go_at_call 127;exact gY (G4.out _)));have z0:=iG jO.out (i:=0) (v:=.int .i64 0) rfl;have z1:=iG jO.out (i:=1) (v:=.bool false) rfl;have f0:=iH jO.out 0;have f1:=iH jO.out 1;have s8:=hid (fun(Y:World) (hY:Y.heap[w.heap.size+1]?=some (.cells #[.int .i64 0,.bool false] 26 (0,0))) (x:Int) (y:Bool)=>(show((Y.setCell ⟨w.heap.size+1,0,none⟩ (.int .i64 x)).setCell ⟨w.heap.size+1,1,none⟩ (.bool y)).heap[w.heap.size+1]?=some (.cells #[.int .i64 x,.bool y] 26 (0,0))from iI (iI hY 0 _) 1 _));have Fz:=hid (fun(Y:World) (hY:Fr [] w Y) (x:Int) (y:Bool)=>(show Fr [] w ((Y.setCell ⟨w.heap.size+1,0,none⟩ (.int .i64 x)).setCell ⟨w.heap.size+1,1,none⟩ (.bool y))from hY.behind ((jT _ _ _ _).set (ak.2 rfl) _) (fun k hk=>by rw[ak.1 hk];omega)));by_cases hl0:lo=0
 ·subst hl0
  have KR:=hid (show(x,y)=((0:Int),false) by rw[UI.out,aE rfl]);obtain⟨rfl,rfl⟩:=Prod.mk.inj KR.out;clear UI KR;go_wp2_with (first | (go_at_call 159;refine(Fh.out _).mono ?_;rintro e w' ⟨rfl,rfl⟩));refine fE (fH (t:=26) (fr:=(0,0)) rfl _ _ (w.heap.size+1) _ _ rfl (s8.out _ ?h1 _ _) underlying26 rfl (by kernel_rfl)) rfl ?_
  case h1=>exact jO.out
  exact⟨rfl,Fz.out (w2.drewN nq) (i_.out.trans (jf _ _)) _ _⟩
 ·have hl0':((lo:Nat):Int)≠0:=by omega
  have ajJ:(((lo:Nat):Int) == 0)=false:=by simp;omega
  obtain⟨gO,cO',MU⟩:=iQ (by omega) HVO.out;cases MU;have hvp:0<V.length:=by
   have:=AF.out (iP o 0) (qC (by rw[<-NR.out];omega));omega
  obtain⟨gB,cB,rfl,_,rB⟩:=GA.out.b.row (by rw[XG.out];omega);obtain⟨gV,cV,rfl,_,rV⟩:=GA.out.v.row hvp;have wR:=hid (rB.fr i_.out aj);have Yu:=hid (rV.fr i_.out aj);obtain⟨aX,cX,Jn,_⟩:=id GA.out.x;subst Jn;have vN:=hid (iJ GA.out.o i_.out aj);have q0:=iG vN.out (i:=0) (v:=.slice (some ⟨gB,0,none⟩) Bd.length cB) rfl;have q1:=iG vN.out (i:=1) (v:=.slice (some ⟨gV,0,none⟩) V.length cV) rfl;have q2:=iG vN.out (i:=2) (v:=.slice aX X.length cX) rfl;have Xo:=hid (fun(c:Nat) (right:Bool) (Y:World) (hf:Fr [] w2 Y) (hc:c<V.length)=>Rn Bd V gB cB Bd.length gV V.length cV c (.slice aX X.length cX) right Y hc XG.out (wR.out.fr hf aj) (Yu.out.fr hf aj) (E3.out c).1 (by omega));have abY:=hid (iM HVO.out i_.out);clear rB rV;by_cases hk0:k=0
  ·subst hk0
   have KR:=hid (show(x,y)=nM Bd V (iP o 0) false by rw[UI.out,ay hl0,aE rfl]);have d0:w2.cell? ⟨gO,0,none⟩=some (.int .i64 (iP o 0:Nat)):=by rw[abY.out.cellAt 0 (by omega)];exact o_ (by rw[<-NR.out];omega)
   have HC:=hid (AF.out (iP o 0) (qC (by rw[<-NR.out];omega)));have hlp:(0:Int)<(lo:Int):=by omega
   have AE:=hid (fun(Y:World) (hf:Fr [] w2 Y)=>Xo.out (iP o 0) false Y hf HC.out);rw[<-KR.out]at AE;dsimp only at AE;generalize iP o 0=c0 at *;clear UI KR;go_wp2_with (first | (go_at_call 159;refine(Fh.out _).mono ?_;rintro e w' ⟨rfl,rfl⟩));go_region_with (first | (go_at_call 160;refine(AE.out _ ?_).mono ?_;exact s_ _ _ _ rfl rfl rfl rfl;rintro e w4 ⟨rfl,jG⟩;have JI:Fr [] w2 w4:=⟨jG.os,jG.tape,jG.output,jG.size,jG.block⟩;have jI:=hid JI;have C5:=hid (iJ jO.out JI aj);have y0:=iG C5.out (i:=0) (v:=.int .i64 0) rfl;have y1:=iG C5.out (i:=1) (v:=.bool false) rfl;have g0:=iH C5.out 0;have g1:=iH C5.out 1;clear jG JI))
   all_goals (
    go_wp2_with fail
    refine fE (fH (t:=26) (fr:=(0,0)) rfl _ _ (w.heap.size+1) _ _ rfl (s8.out _ ?h1 _ _) underlying26 rfl (by kernel_rfl)) rfl ?_
    case h1=>exact C5.out
    exact⟨rfl,Fz.out w4 (i_.out.trans jI.out) _ _⟩)
  ·have hk0':((k:Nat):Int)≠0:=by omega
   have ajK:(((k:Nat):Int) == 0)=false:=by simp;omega
   have KR:=hid (show(x,y)=nM Bd V (iP o (k - 1)) true by rw[UI.out,ay hl0,ay hk0]);have hkl':k - 1<lo:=by omega
   have d0:w2.cell? ⟨gO,k - 1,none⟩=some (.int .i64 (iP o (k - 1):Nat)):=by rw[abY.out.cellAt (k - 1) (by omega)];exact o_ (by rw[<-NR.out];omega)
   have HC:=hid (AF.out (iP o (k - 1)) (qC (by rw[<-NR.out];omega)));have AE:=hid (fun(Y:World) (hf:Fr [] w2 Y)=>Xo.out (iP o (k - 1)) true Y hf HC.out);rw[<-KR.out]at AE;dsimp only at AE;obtain⟨k1,hk1⟩:∃k1,k1=k - 1:=⟨_,rfl⟩;rw[<-hk1]at d0 AE HC KR hkl';have hw1:IntKind.i64.wrap ((k:Int) - 1)=(k1:Int):=by rw[fM];omega
   have ajL:(k1:Int)<(lo:Int):=by omega
   generalize iP o k1=c0 at *;clear UI KR hk1;go_wp2_with (first | (go_at_call 159;refine(Fh.out _).mono ?_;rintro e w' ⟨rfl,rfl⟩));go_region_with (first | (go_at_call 160;refine(AE.out _ ?_).mono ?_;exact s_ _ _ _ rfl rfl rfl rfl;rintro e w4 ⟨rfl,jG⟩;have JI:Fr [] w2 w4:=⟨jG.os,jG.tape,jG.output,jG.size,jG.block⟩;have jI:=hid JI;have C5:=hid (iJ jO.out JI aj);have y0:=iG C5.out (i:=0) (v:=.int .i64 0) rfl;have y1:=iG C5.out (i:=1) (v:=.bool false) rfl;have g0:=iH C5.out 0;have g1:=iH C5.out 1;clear jG JI))
   all_goals (
    go_wp2_with fail
    refine fE (fH (t:=26) (fr:=(0,0)) rfl _ _ (w.heap.size+1) _ _ rfl (s8.out _ ?h1 _ _) underlying26 rfl (by kernel_rfl)) rfl ?_
    case h1=>exact C5.out
    exact⟨rfl,Fz.out w4 (i_.out.trans jI.out) _ _⟩)
theorem G5 (B P:Nat)(Bd V X:List Int)(r:Int)(Ls:List Ln)(v0 v1 v2 vL:Value)(hs:List Value)(line x:Int)(w:World)(h:LP w B P Bd V X r Ls v0 v1 v2 vL hs)(T:DG Bd V Ls)(hbd:Bd.length=V.length+1)(hv4:V.length<=400)(Dr:0<Ls.length)(hK:Ls.length<=400)(hlo:∀l∈Ls,l.o.length<=1000) :
 Calls prog 96 #[.pointer (some ⟨P,0,none⟩),.int .i64 line,.int .i64 x] w fun e w'=>e=.returned (.agg #[.int .i64 (vC Bd V Ls line x).1,.bool (vC Bd V Ls line x).2])/\Fr [] w w':=by
 obtain⟨i,hi,hiK⟩:=um (x:=line) (m:=Ls.length - 1);have hi':near line ((Ls.length:Int) - 1)=(i:Int):=by rw[<-hi];congr 1;omega
 have hil:i<Ls.length:=by omega
 have hmem:=ny hil
 have HHP:=hid (show vC Bd V Ls line x=ko Bd V Ls (i:Int) (ku (kF Ls i).x x (kF Ls i).x.length:Nat) by
  unfold vC;dsimp only;rw[hi',Int.toNat_natCast])
 obtain⟨U,_,hn⟩:=h.n;obtain⟨vO,vX,_,_,_,a4,_,a6,_⟩:=hn i _ (qH hil);obtain⟨gL,cL,DE⟩:=iQ Dr h.l;subst DE;have hxl:=T.xl _ hmem;have hlo1:=hlo _ hmem;obtain⟨gX,cX,Jn⟩:=iQ (by omega) a6;subst Jn;have HRX:=hid (show rowAt w gX (kF Ls i).x.length (kF Ls i).x from fun j hj=>by rw[a6.cellAt j (by omega),k_ hj]);have hxb:=T.xb _ hmem;have G4:=hid (fun Y:World=>zG (some ⟨gL,0,none⟩) Ls.length cL line Y Dr (by omega));rw[hi']at G4;have afD:=hid (fun(Y:World) (hf:Fr [] w Y)=>G3 (kF Ls i).x x (nth (kF Ls i).x ((kF Ls i).x.length - 1)) gX (kF Ls i).x.length cX Y rfl (by omega) (by omega) (HRX.out.fr hf aj) (fun k hk=>⟨(hxb k hk).1,(hxb k hk).2.1⟩) rfl (hxb _ (by omega)).2.2);have UJ:=hid (fun(Y:World) (hf:Fr [] w Y)=>Ej B P Bd V X r Ls v0 v1 v2 (.slice (some ⟨gL,0,none⟩) Ls.length cL) hs (i:Int) (ku (kF Ls i).x x (kF Ls i).x.length:Nat) Y (h.fr hf (fun k hk=>absurd hk aj)) T hbd hv4 Dr hK hlo);rw[<-HHP.out]at UJ;obtain⟨a,b,hab⟩:∃a b,vC Bd V Ls line x=(a,b):=⟨_,_,rfl⟩;rw[hab]at UJ ⊢;have c3:w.cell? ⟨gL,i * 4+3,none⟩=some (.slice (some ⟨gX,0,none⟩) (kF Ls i).x.length cX):=by rw[h.l.cellAt _ (by omega)];exact a4
 have p3:=iG h.o (i:=3) (v:=.slice (some ⟨gL,0,none⟩) Ls.length cL) rfl;obtain⟨w2,hw2⟩:∃w2,w2=w.alloc (.cells #[.int .i64 0,.bool false] 26):=⟨_,rfl⟩;have i_:=hid (show Fr [] w w2 by rw[hw2];exact(Fr.refl [] w).alloc _);have jO:=hid (show w2.heap[w.heap.size]?=some (.cells #[.int .i64 0,.bool false] 26 (0,0)) by rw[hw2];exact iL w _);generalize ku (kF Ls i).x x (kF Ls i).x.length=bx at *;generalize (kF Ls i).x.length=lx at *;have y_:(i:Int)<(Ls.length:Int):=by omega
 generalize Ls.length=K at *;have za:P<w.heap.size:=fC _ _ p3;have hgl:gL<w.heap.size:=fC _ _ c3;clear h T hbd hn a4 a6 hi hi' hab hlo hxb hxl hmem HRX HHP;go_enter func96,ntmps96;have HW2:=hid hw2;clear hw2
 go_wp2_with (first
  | (go_at_call 127;refine(G4.out _).mono ?_;rintro e w' ⟨rfl,rfl⟩)
  | (go_at_call 129;rw[<-HW2.out];refine(afD.out _ i_.out).mono ?_;rintro e w3 ⟨rfl,hf3⟩;have jQ:=hid hf3;clear hf3)
  | (go_at_call 128;refine(UJ.out _ (i_.out.trans jQ.out)).mono ?_;rintro e w4 ⟨rfl,jG⟩;have jI:=hid (jQ.out.trans jG);have oI:=hid (iJ jO.out (jQ.out.trans jG) aj);have z0:=iG oI.out (i:=0) (v:=.int .i64 0) rfl;have z1:=iG oI.out (i:=1) (v:=.bool false) rfl;have f0:=iH oI.out 0;have f1:=iH oI.out 1;clear jG))
 have s8:=hid (show((w4.setCell ⟨w.heap.size,0,none⟩ (.int .i64 a)).setCell ⟨w.heap.size,1,none⟩ (.bool b)).heap[w.heap.size]?=some (.cells #[.int .i64 a,.bool b] 26 (0,0))from iI (iI oI.out 0 _) 1 _);refine fE (fH (t:=26) (fr:=(0,0)) rfl _ _ w.heap.size _ _ rfl s8.out underlying26 rfl (by kernel_rfl)) rfl ?_;exact⟨rfl,(i_.out.trans jI.out).behind ((jT _ _ _ _).set (ak.2 rfl) _) (fun k hk=>by rw[ak.1 hk];exact au _)⟩
theorem pE {Bd:List Int}{z:Int}(h:jN Bd z){j:Nat}(hj:j<Bd.length)(b:Bool):iR Bd z (nth Bd j) b=(nth Bd j,if j=0 then false else if j=Bd.length - 1 then true else b):=by
 have h0:0<=nth Bd j:=by
  have h1:=kY h
  rcases bO j with e | e
  ·rw[e,h1];exact eD 0
  ·have:=rU h e hj;omega
 have hz:nth Bd j<=z:=by
  have h1:=mM h
  rcases aH (show j<=Bd.length - 1 by omega)with e | e
  ·have:=rU h e (by omega);omega
  ·rw[e,h1];exact eD z
 have hb:best Bd (min (max (nth Bd j) 0) z) Bd.length=nth Bd j:=by
  rw[show min (max (nth Bd j) 0) z=nth Bd j by omega];exact CV h.sorted hj (rO Bd j).symm
 have e1:(nth Bd j=0) ↔ j=0:=⟨fun e=>nL h hj h.len (by rw[e,kY h]),fun e=>by rw[e,kY h]⟩;have e2:(nth Bd j=z) ↔ j=Bd.length - 1:=⟨fun e=>nL h hj (by have:=h.len;omega) (by rw[e,mM h]),fun e=>by rw[e,mM h]⟩;unfold iR;dsimp only;rw[hb];simp only[e1,e2]
theorem M7 {k n:Nat}(h:k<=n):(near (k:Int) (n:Int)).toNat=k:=by unfold near;split <;> (try split) <;> omega
theorem M8 {i K:Nat}(h:i<K):(near (i:Int) ((K:Int) - 1)).toNat=i:=by unfold near;split <;> (try split) <;> omega
theorem G6 {O:List Nat}{j:Nat}(h:j<O.length):iP O j∈O:=by rw[wT h];exact bB _
theorem M9 {O:List Nat}(hn:O.Nodup){k:Nat}(h:k<O.length):ug O (iP O k) k:=by
 refine⟨h,rfl,fun j hj e=>?_⟩;rw[wT h,wT (fA hj h)]at e;exact bE.1 hn j k (fA hj h) h hj e
theorem Ro {Bd V:List Int}{z:Int}{Ls:List Ln}(F:vA Bd V z Ls)(h0:0<V.length){i k:Nat}(hi:i<Ls.length)(hk:k<=(kF Ls i).o.length) :
 iR Bd z (ko Bd V Ls i k).1 (ko Bd V Ls i k).2=ko Bd V Ls i k/\oJ Bd V z Ls (ko Bd V Ls i k).1 (ko Bd V Ls i k).2=(i,k):=by
 have hne:=F.ne h0 i hi;have hbd:=F.bd;obtain⟨c,j,rt,hj,hc,hjk,hnp⟩:∃c j rt,j<(kF Ls i).o.length/\c=iP (kF Ls i).o j/\k=(if rt=true then j+1 else j)/\ko Bd V Ls i k=nM Bd V c rt:=by
  unfold ko;dsimp only;rw[M8 hi,M7 hk,ay (by omega)];by_cases hk0:k=0
  ·rw[aE hk0]
   exact⟨_,0,false,hne,rfl,by simp[hk0],rfl⟩
  ·rw[ay hk0]
   exact⟨_,k - 1,true,by omega,rfl,by simp;omega,rfl⟩
 have hm:c∈(kF Ls i).o:=by rw[hc];exact G6 hj
 obtain⟨hcv,hH⟩:=F.on i hi c hm;have hS:ug (kF Ls i).o c j:=by rw[hc];exact M9 (F.nd i hi) hj
 rw[hnp];have hp:iR Bd z (nM Bd V c rt).1 (nM Bd V c rt).2=nM Bd V c rt/\cidx Bd (nM Bd V c rt).1=(if(nM Bd V c rt).2=true then c+1 else c):=by
  unfold nM;by_cases hr:rt=(nth V c % 2 == 1)
  ·rw[aE hr]
   dsimp only;rw[pE F.rs (by omega),Bg F.rs (by omega)];refine⟨?_,by simp⟩;rw[ay (show ¬c=Bd.length - 1 by omega)];simp
  ·rw[ay hr]
   dsimp only;rw[pE F.rs (by omega),Bg F.rs (by omega)];refine⟨?_,by simp⟩;rw[ay (show ¬c+1=0 by omega)];simp
 refine⟨hp.1,?_⟩;rw[Fe h0 (c:=c) (i:=i) (k:=j) (by rw[hp.1];exact hp.2) hH hS,hp.1,hjk];have e:(nM Bd V c rt).2=if rt=(nth V c % 2 == 1)then false else true:=by unfold nM;split <;> rfl
 rw[e];cases rt <;> cases (nth V c % 2 == 1) <;> rfl
theorem Av {Bd:List Int}{z:Int}(h:jN Bd z)(off:Int)(back:Bool):iR Bd z (iR Bd z off back).1 (iR Bd z off back).2=iR Bd z off back:=by
 obtain⟨j,hj,e⟩:=rW h (min (max off 0) z) Bd.length (au _);have hp:iR Bd z off back=(nth Bd j,if nth Bd j=0 then false else if nth Bd j=z then true else back):=by rw[e];rfl
 rw[hp];dsimp only;rw[pE h hj];have e1:(nth Bd j=0) ↔ j=0:=⟨fun e=>nL h hj h.len (by rw[e,kY h]),fun e=>by rw[e,kY h]⟩;have e2:(nth Bd j=z) ↔ j=Bd.length - 1:=⟨fun e=>nL h hj (by have:=h.len;omega) (by rw[e,mM h]),fun e=>by rw[e,mM h]⟩;simp only[e1,e2];by_cases h1:j=0
 ·simp[h1]
 ·by_cases h2:j=Bd.length - 1
  ·simp[h2]
  ·simp[h1,h2]
theorem M_ {Bd V:List Int}{z:Int}{Ls:List Ln}(h:jN Bd z)(off:Int)(back:Bool):oJ Bd V z Ls (iR Bd z off back).1 (iR Bd z off back).2=oJ Bd V z Ls off back:=by
 unfold oJ;rw[Av h]
abbrev Rp (d:Int)(ext:Bool)(a x:Int)(bk:Bool)(t:ByteArray):Value:=.agg #[.int .i64 d,.bool ext,.int .i64 a,.int .i64 x,.bool bk,.string t]
theorem Na (d a x:Int)(ext bk:Bool)(t:ByteArray)(w:World)(hd:d=0\/d=1\/d=2\/d=3\/d=4\/d=5) :
 Calls prog 55 #[Rp d ext a x bk t] w fun e w'=>e=.returned (.iface 197 (.int .i64 d))/\Fr [] w w':=by
 rcases hd with rfl | rfl | rfl | rfl | rfl | rfl
 all_goals (
  go_enter func55,ntmps55
  go_wp2
  go_ret
  exact⟨rfl,(Fr.refl [] w).alloc _⟩)
theorem JJ (d a x:Int)(ext bk:Bool)(t:ByteArray)(w:World)(hd:d=6\/d=7) :
 Calls prog 55 #[Rp d ext a x bk t] w fun e w'=>e=.returned (.iface 198 (.int .i64 d))/\Fr [] w w':=by
 rcases hd with rfl | rfl
 all_goals (
  go_enter func55,ntmps55
  go_wp2
  go_ret
  exact⟨rfl,(Fr.refl [] w).alloc _⟩)
theorem JK (a x:Int)(ext bk:Bool)(t:ByteArray)(w:World) :
 Calls prog 55 #[Rp 8 ext a x bk t] w fun e w'=>e=.returned (.iface 200 (.agg #[.int .i64 a,.int .i64 x]))/\Fr [] w w':=by
 go_enter func55,ntmps55;go_wp2;go_ret;exact⟨rfl,(Fr.refl [] w).alloc _⟩
theorem Nb (a x:Int)(ext bk:Bool)(t:ByteArray)(w:World) :
 Calls prog 55 #[Rp 9 ext a x bk t] w fun e w'=>e=.returned (.iface 201 (.agg #[.int .i64 a,.bool bk]))/\Fr [] w w':=by
 go_enter func55,ntmps55;go_wp2;go_ret;exact⟨rfl,(Fr.refl [] w).alloc _⟩
theorem Nc (d a x:Int)(ext bk:Bool)(t:ByteArray)(w:World)(hd:d<0\/9<d) :
 Calls prog 55 #[Rp d ext a x bk t] w fun e w'=>e=.returned .nilIface/\Fr [] w w':=by
 have h0:(d == 0)=false:=by simp;omega
 have h1:(d == 1)=false:=by simp;omega
 have h2:(d == 2)=false:=by simp;omega
 have h3:(d == 3)=false:=by simp;omega
 have h4:(d == 4)=false:=by simp;omega
 have h5:(d == 5)=false:=by simp;omega
 have h6:(d == 6)=false:=by simp;omega
 have h7:(d == 7)=false:=by simp;omega
 have h8:(d == 8)=false:=by simp;omega
 have h9:(d == 9)=false:=by simp;omega
 go_enter func55,ntmps55;go_wp2;go_ret;exact⟨rfl,(Fr.refl [] w).alloc _⟩
theorem Ek (d:Int)(w:World):Calls prog 270 #[.int .i64 d] w fun e w'=>e=.returned (.bool false)/\Fr [] w w':=by
 go_enter func270,ntmps270;go_wp2;go_ret;exact⟨rfl,Fr.refl [] w⟩
theorem C6 (d:Int)(w:World):Calls prog 271 #[.int .i64 d] w fun e w'=>e=.returned (.bool true)/\Fr [] w w':=by
 go_enter func271,ntmps271;go_wp2;go_ret;exact⟨rfl,Fr.refl [] w⟩
theorem C8 (a x:Int)(w:World):Calls prog 272 #[.agg #[.int .i64 a,.int .i64 x]] w fun e w'=>e=.returned (.bool false)/\Fr [] w w':=by
 go_enter func272,ntmps272;go_wp2;go_ret;exact⟨rfl,by first | exact Fr.refl [] w | exact(Fr.refl [] w).alloc _⟩
theorem El (a:Int)(b:Bool)(w:World):Calls prog 273 #[.agg #[.int .i64 a,.bool b]] w fun e w'=>e=.returned (.bool false)/\Fr [] w w':=by
 go_enter func273,ntmps273;go_wp2;go_ret;exact⟨rfl,by first | exact Fr.refl [] w | exact(Fr.refl [] w).alloc _⟩
theorem Bi (Z P:Nat)(ao fo goal gx:Int)(ab fb aim aims:Bool)(w:World)(hZ:w.heap[Z]?=some (.cells (kL P ao ab fo fb aim goal) 134 (0,0)))
 (hX:∀Y,Fr [] w Y->Calls prog 63 #[.pointer (some ⟨P,0,none⟩),.agg #[.int .i64 fo,.bool fb]] Y fun e w'=>e=.returned (.int .i64 gx)/\Fr [] Y w') :
 Calls prog 56 #[.pointer (some ⟨Z,0,none⟩),.bool aims] w fun e w'=>e=.returned (.tuple #[])/\w'.heap[Z]?=some (.cells (kL P ao ab fo fb aims (if aims && !aim then gx else goal)) 134 (0,0))/\Fr [Z] w w':=by
 have HZ:=hid hZ;have HX:=hid hX;have z0:=iG hZ (i:=0) (v:=.pointer (some ⟨P,0,none⟩)) rfl;have z3:=iG hZ (i:=3) (v:=.int .i64 fo) rfl;have z4:=iG hZ (i:=4) (v:=.bool fb) rfl;have z5:=iG hZ (i:=5) (v:=.bool aim) rfl;have f5:=iH hZ 5;have f6:=iH hZ 6;clear hZ hX;cases aims
 ·go_enter func56,ntmps56
  go_wp2;go_end0;exact⟨rfl,iI HZ.out 5 _,(Fr.refl [Z] w).set (ak.2 rfl) _⟩
 ·cases aim
  ·go_enter func56,ntmps56
   go_wp2_with fail;go_region_held (fun wz=>wz.cell? ⟨Z,0,none⟩=some (.pointer (some ⟨P,0,none⟩))/\wz.cell? ⟨Z,3,none⟩=some (.int .i64 fo)/\wz.cell? ⟨Z,4,none⟩=some (.bool fb)) (first | exact l9 | exact And.intro (iG lg.out (i:=0) rfl) (And.intro (iG lg.out (i:=3) rfl) (iG lg.out (i:=4) rfl)) | go_keep)
    (first
      | (go_at_call 63;refine(HX.out _ ?fa).mono ?_;(case fa=>exact(Fr.refl [] w).drew);rintro e w1 ⟨rfl,hf1⟩;have nH:=hid (show Fr [] w w1 from Fr.trans (Fr.refl [] w).drew hf1);have HZ1:=hid (iJ HZ.out nH.out aj);have y5:=iG HZ1.out (i:=5) (v:=.bool false) rfl;have y6:=iG HZ1.out (i:=6) (v:=.int .i64 goal) rfl;have g5:=iH HZ1.out 5;have g6:=iH HZ1.out 6;have lg:=hid (iI HZ1.out 6 (.int .i64 gx));have l9:=And.intro (nH.out.cell z0 aj) (And.intro (nH.out.cell z3 aj) (nH.out.cell z4 aj));clear hf1))
   all_goals (
    go_wp2
    go_end0
    exact⟨rfl,iI (iI HZ1.out 6 _) 5 _,((nH.out.mono (fun _ h _=>absurd h aj):Fr [Z] w w1).set (ak.2 rfl) _).set (ak.2 rfl) _⟩)
  ·go_enter func56,ntmps56
   go_wp2;go_end0;exact⟨rfl,iI HZ.out 5 _,(Fr.refl [Z] w).set (ak.2 rfl) _⟩
theorem UK {x:Int}{K:Nat}:(near x ((K:Int) - 1) == x)=decide (0<=x/\x<(K:Int)):=by
 unfold near;by_cases h:0<=x/\x<(K:Int)
 ·rw[bQ h,ay (by omega),ay (by omega)];simp
 ·rw[bS h]
  split
  ·simp;omega
  ·split
   ·simp;omega
   ·omega
theorem C9 (a:Option Addr)(K c:Nat)(x:Int)(w:World)(h0:0<K)(hK:K<=100000):Calls prog 200 #[.slice a K c,.int .i64 x] w fun e w'=>e=.returned (.bool (decide (0<=x/\x<(K:Int))))/\w'=w:=by
 rw[<-UK];have G4:=hid (fun Y:World=>zG a K c x Y h0 hK);go_enter func200,ntmps200;go_wp2_with (first | (go_at_call 127;refine(G4.out _).mono ?_;rintro e w' ⟨rfl,rfl⟩));go_ret;exact⟨rfl,rfl⟩
theorem Em (gL K cL i lo cO:Nat)(aO:Option Addr)(w:World)(hi:i<K)(hc:w.cell? ⟨gL,i * 4+2,none⟩=some (.slice aO lo cO)):Calls prog 201 #[.slice (some ⟨gL,0,none⟩) K cL,.int .i64 (i:Nat)] w fun e w'=>e=.returned (.int .i64 (lo:Nat))/\Fr [] w w':=by
 have y_:(i:Int)<(K:Int):=by omega
 have hgl:=fC _ _ hc;dsimp only at hgl;go_enter func201,ntmps201;go_wp2;go_ret;exact⟨rfl,by(repeat(first | refine Fr.iK ?_ (by omega) | refine Fr.drewN ?_ _ | refine Fr.drew ?_ | with_reducible exact Fr.refl _ _ | refine Fr.alloc ?_ _))⟩
theorem Rq (Bd:List Int)(gB cB nB:Nat)(v1 v2:Value)(x:Int)(k:Nat)(w:World)(hn:0<nB)(hl:nB<=1000)(hB:rowAt w gB nB Bd)(hk:near x ((nB:Int) - 1)=(k:Nat))(hkn:k<nB) :
 Calls prog 156 #[.agg #[.slice (some ⟨gB,0,none⟩) nB cB,v1,v2],.int .i64 x] w fun e w'=>e=.returned (.int .i64 (nth Bd k))/\Fr [] w w':=by
 have Fh:=hid (fun Y:World=>zF x ((nB:Int) - 1) Y (by omega));rw[hk]at Fh;have c1:=hB k hkn;have hgl:=fC _ _ c1;dsimp only at hgl;have wX:(k:Int)<(nB:Int):=by omega
 have hw1:IntKind.i64.wrap ((nB:Int) - 1)=(nB:Int) - 1:=by rw[fM];omega
 generalize nth Bd k=y at *;clear hB hk;obtain⟨w2,hw2⟩:∃w2,w2=w.alloc (.cells #[.slice (some ⟨gB,0,none⟩) nB cB,v1,v2] 146):=⟨_,rfl⟩;have i_:=hid (show Fr [] w w2 by rw[hw2];(repeat(first | refine Fr.iK ?_ (by omega) | refine Fr.drewN ?_ _ | refine Fr.drew ?_ | with_reducible exact Fr.refl _ _ | refine Fr.alloc ?_ _)));have jO:=hid (show w2.heap[w.heap.size]?=some (.cells #[.slice (some ⟨gB,0,none⟩) nB cB,v1,v2] 146 (0,0)) by rw[hw2];exact iL w _);have HC1:=hid (i_.out.cell c1 aj);go_enter func156,ntmps156;go_wp2_with fail;rw[<-hw2];clear hw2 c1;have b0:=iG jO.out (i:=0) (v:=.slice (some ⟨gB,0,none⟩) nB cB) rfl;have c1:=HC1.out;go_quiet (first | (go_at_call 159;exact gY (Fh.out _)));go_wp2;go_ret;exact⟨rfl,i_.out.trans (jf _ _)⟩
theorem Nd (B P:Nat)(Bd V X:List Int)(r:Int)(Ls:List Ln)(v0 v1 v2 vL:Value)(hs:List Value)(off:Int)(back:Bool)(g1 g2:Nat)(w:World)(h:LP w B P Bd V X r Ls v0 v1 v2 vL hs)(hr:-1<=r/\r<=1)(hi:g1<Ls.length)(hk2:g2<=(kF Ls g1).o.length)(hK:Ls.length<=400)(hlo:∀l∈Ls,l.o.length<=1000)
 (hg:∀Y,Fr [] w Y->Calls prog 62 #[.pointer (some ⟨P,0,none⟩),.agg #[.int .i64 off,.bool back]] Y fun e w'=>e=.returned (.agg #[.int .i64 (g1:Nat),.int .i64 (g2:Nat)])/\Fr [] Y w')
 (hn:∀line gap Y,Fr [] w Y->Calls prog 128 #[.pointer (some ⟨P,0,none⟩),.agg #[.int .i64 line,.int .i64 gap]] Y fun e w'=>e=.returned (.agg #[.int .i64 (ko Bd V Ls line gap).1,.bool (ko Bd V Ls line gap).2])/\Fr [] Y w') (R:Int × Bool)
 (hR:R=if g2<(kF Ls g1).o.length then ko Bd V Ls (g1:Nat) ((g2:Int)+1)else if 0<=(g1:Int)+r/\(g1:Int)+r<(Ls.length:Int)then ko Bd V Ls ((g1:Int)+r) 0 else(off,back)) :
 Calls prog 155 #[.pointer (some ⟨P,0,none⟩),.agg #[.int .i64 off,.bool back]] w fun e w'=>e=.returned (.agg #[.int .i64 R.1,.bool R.2])/\Fr [] w w':=by
 obtain⟨gL,cL,DE⟩:=iQ (by omega) h.l;subst DE;obtain⟨U,hU,hnn⟩:=h.n;obtain⟨vO,vX,_,_,a3,_,a5,_⟩:=hnn g1 _ (qH hi);obtain⟨aO,cO,MU⟩:=iW a5;subst MU;have C2:=hid (show w.cell? ⟨gL,g1 * 4+2,none⟩=some (.slice aO (kF Ls g1).o.length cO) by rw[h.l.cellAt _ (by omega)];exact a3);have hl1:=hlo _ (ny hi);have vN:=hid h.o;have za:=iO h.o;have Bf:=hid hg;have UJ:=hid hn;have HR:=hid hR;have s9:=hid (fun Y:World=>C9 (some ⟨gL,0,none⟩) Ls.length cL ((g1:Int)+r) Y (by omega) (by omega));generalize (kF Ls g1).o.length=lo at *;generalize Ls.length=K at *;have YG:=hid (fun(Y:World) (hf:Fr [] w Y)=>Em gL K cL g1 lo cO aO Y hi (hf.cell C2.out aj));obtain⟨ra,rb,G7⟩:∃ra rb,R=(ra,rb):=⟨_,_,rfl⟩;rw[G7]at HR ⊢;obtain⟨w2,hw2⟩:∃w2,w2=(w.alloc (.cells #[.int .i64 off,.bool back] 26)).alloc (.cells #[.int .i64 0,.bool false] 26):=⟨_,rfl⟩;have i_:=hid (show Fr [] w w2 by rw[hw2];exact((Fr.refl _ _).alloc _).alloc _);have jO:=hid (show w2.heap[w.heap.size]?=some (.cells #[.int .i64 off,.bool back] 26 (0,0)) by rw[hw2];exact iJ (iL w _) ((Fr.refl [] _).alloc _) aj)
 have HR2:=hid (show w2.heap[w.heap.size+1]?=some (.cells #[.int .i64 0,.bool false] 26 (0,0)) by
  have hs:(w.alloc (.cells #[.int .i64 off,.bool back] 26)).heap.size=w.heap.size+1:=by simp
  have h0:=iL (w.alloc (.cells #[.int .i64 off,.bool back] 26)) (.cells #[.int .i64 0,.bool false] 26)
  rw[hs]at h0
  rw[hw2];exact h0)
 clear h hg hn hR hnn a3 a5 hlo G7;go_enter func155,ntmps155;have HW2:=hid hw2;clear hw2;go_wp2_with fail;rw[<-HW2.out];refine(Bf.out _ i_.out).mono ?_;rintro e w3 ⟨rfl,hf3⟩;obtain⟨w4,hw4⟩:∃w4,w4=w3.alloc (.cells #[.int .i64 (g1:Nat),.int .i64 (g2:Nat)] 28):=⟨_,rfl⟩;have jI:=hid (show Fr [] w w4 by rw[hw4];exact(i_.out.trans hf3).alloc _);have og:=hid (show Fr [] w2 w4 by rw[hw4];exact hf3.alloc _);have oI:=hid (show w4.heap[w3.heap.size]?=some (.cells #[.int .i64 (g1:Nat),.int .i64 (g2:Nat)] 28 (0,0)) by rw[hw4];exact iL w3 _);have DH:=hid hw4;clear hf3 hw4;go_wp2_with fail;rw[<-DH.out];have t0:=iG oI.out (i:=0) (v:=.int .i64 (g1:Nat)) rfl;have t1:=iG oI.out (i:=1) (v:=.int .i64 (g2:Nat)) rfl;have p3:=iG (iJ vN.out jI.out aj) (i:=3) (v:=.slice (some ⟨gL,0,none⟩) K cL) rfl;go_cut [19]from 7 to 99 (fun v wx=>v=.bool (decide ((g2:Int)<(lo:Int)))/\Hid (Fr [] w4 wx))
 case first =>
  go_region_with (first
   | (go_at_call 201;refine(YG.out _ ?fa).mono ?_;(case fa=>exact⟨jI.out.os,jI.out.tape,jI.out.output,jI.out.size,jI.out.block⟩);rintro e w5 ⟨rfl,kK⟩;have kD:=hid (show Fr [] w4 w5 from⟨kK.os,kK.tape,kK.output,kK.size,kK.block⟩);have t2:=iG (iJ oI.out kD.out aj) (i:=1) (v:=.int .i64 (g2:Nat)) rfl;clear kK))
  all_goals (
   go_wp2
   go_meet
   exact⟨by simp,kD⟩)
 case rest =>
  obtain⟨rfl,kD⟩:=hcut;obtain⟨w5,nK⟩:∃w5,w5=wc:=⟨_,rfl⟩;rw[<-nK]at kD ⊢;clear nK t0 t1 p3;have pF:=hid (jI.out.trans kD.out);have rK:=hid (iJ oI.out kD.out aj);have t0:=iG rK.out (i:=0) (v:=.int .i64 (g1:Nat)) rfl;have t1:=iG rK.out (i:=1) (v:=.int .i64 (g2:Nat)) rfl;have hl5:=iO rK.out;by_cases hlt:g2<lo
  ·have Rr:(g2:Int)<(lo:Int):=by omega
   have HRR:=hid (show(ra,rb)=ko Bd V Ls (g1:Nat) ((g2:Int)+1) by rw[HR.out,aE hlt]);have wU:=hid (fun(Y:World) (hf:Fr [] w5 Y)=>UJ.out (g1:Nat) ((g2:Int)+1) Y (pF.out.trans hf));rw[<-HRR.out]at wU;dsimp only at wU;have hwk:IntKind.i64.wrap ((g2:Int)+1)=(g2:Int)+1:=by rw[fM];omega
   clear HRR HR;go_wp2_with fail;refine(wU.out w5 (Fr.refl _ _)).mono ?_;rintro e w6 ⟨rfl,jJ⟩;have lu:=hid (kD.out.trans jJ);clear jJ;have kQ:=hid (iJ HR2.out (og.out.trans (lu.out)) aj);have r0:=iG kQ.out (i:=0) (v:=.int .i64 0) rfl;have r1:=iG kQ.out (i:=1) (v:=.bool false) rfl;have k0:=iH kQ.out 0;have k1:=iH kQ.out 1;go_wp2_with fail;refine fE (fH (t:=26) (fr:=(0,0)) rfl _ _ (w.heap.size+1) _ _ rfl (iI (iI kQ.out 0 _) 1 _) underlying26 rfl (by kernel_rfl)) rfl ?_;exact⟨rfl,Fr.iK (Fr.iK (jI.out.trans (lu.out)) (by omega)) (by omega)⟩
  ·have Rr:¬(g2:Int)<(lo:Int):=by omega
   have YH:decide ((g2:Int)<(lo:Int))=false:=by simpa using Rr
   have p3:=iG (iJ vN.out pF.out aj) (i:=3) (v:=.slice (some ⟨gL,0,none⟩) K cL) rfl;have p4:=iG (iJ vN.out pF.out aj) (i:=4) (v:=.int .i64 r) rfl;obtain⟨ln,hln⟩:∃ln,ln=(g1:Int)+r:=⟨_,rfl⟩;have D2:=hid hln;rw[<-hln]at s9;have hwr:IntKind.i64.wrap ((g1:Int)+r)=ln:=by rw[hln,fM];omega
   rw[YH];clear YH;have abZ:=hid (iJ jO.out (og.out.trans kD.out) aj);have s0:=iG abZ.out (i:=0) (v:=.int .i64 off) rfl;have s1:=iG abZ.out (i:=1) (v:=.bool back) rfl;by_cases hv:0<=ln/\ln<(K:Int)
   ·have HRR:=hid (show(ra,rb)=ko Bd V Ls ln 0 by rw[HR.out,ay hlt,<-D2.out,aE hv])
    have wU:=hid (fun(Y:World) (hf:Fr [] w Y)=>UJ.out ln 0 Y hf);rw[<-HRR.out]at wU;dsimp only at wU;rw[bQ hv]at s9;clear HRR HR hln hv;go_wp2_with fail;go_quiet (fail);obtain⟨wq,hwq⟩:∃wq,wq=w5.drewN nq:=⟨_,rfl⟩;rw[<-hwq];have JL:=hid (show Fr [] w4 wq by rw[hwq];exact kD.out.trans (jf _ _));have Rs:=hid (jI.out.trans JL.out);clear hwq t0 t1 p3 p4 s0 s1 hwr;have p3:=iG (iJ vN.out Rs.out aj) (i:=3) (v:=.slice (some ⟨gL,0,none⟩) K cL) rfl;have Nf:=hid (iJ jO.out (og.out.trans JL.out) aj);go_wp2_with (first | (go_at_call 200;refine(s9.out _).mono ?_;rintro e wz ⟨rfl,hwz⟩;obtain rfl:wq=wz:=hwz.symm) | (go_at_call 128;refine(wU.out _ Rs.out).mono ?_;rintro e w6 ⟨rfl,jJ⟩;have lu:=hid (JL.out.trans jJ);clear jJ;have kQ:=hid (iJ HR2.out (og.out.trans lu.out) aj);have r0:=iG kQ.out (i:=0) (v:=.int .i64 0) rfl;have r1:=iG kQ.out (i:=1) (v:=.bool false) rfl;have k0:=iH kQ.out 0;have k1:=iH kQ.out 1));refine fE (fH (t:=26) (fr:=(0,0)) rfl _ _ (w.heap.size+1) _ _ rfl (iI (iI kQ.out 0 _) 1 _) underlying26 rfl (by kernel_rfl)) rfl ?_;exact⟨rfl,Fr.iK (Fr.iK (jI.out.trans lu.out) (by omega)) (by omega)⟩
   ·have HRR:=hid (show(ra,rb)=(off,back) by rw[HR.out,ay hlt,<-D2.out,ay hv])
    obtain⟨rfl,rfl⟩:=Prod.mk.inj HRR.out;rw[bS hv]at s9;clear HRR HR hln hv;go_wp2_with fail;go_quiet (fail);obtain⟨wq,hwq⟩:∃wq,wq=w5.drewN nq:=⟨_,rfl⟩;rw[<-hwq];have JL:=hid (show Fr [] w4 wq by rw[hwq];exact kD.out.trans (jf _ _));have Rs:=hid (jI.out.trans JL.out);clear hwq t0 t1 p3 p4 s0 s1 hwr;have p3:=iG (iJ vN.out Rs.out aj) (i:=3) (v:=.slice (some ⟨gL,0,none⟩) K cL) rfl;have Nf:=hid (iJ jO.out (og.out.trans JL.out) aj);have s0:=iG Nf.out (i:=0) (v:=.int .i64 ra) rfl;have s1:=iG Nf.out (i:=1) (v:=.bool rb) rfl;have kQ:=hid (iJ HR2.out (og.out.trans JL.out) aj);have r0:=iG kQ.out (i:=0) (v:=.int .i64 0) rfl;have r1:=iG kQ.out (i:=1) (v:=.bool false) rfl;have k0:=iH kQ.out 0;have k1:=iH kQ.out 1;go_wp2_with (first | (go_at_call 200;refine(s9.out _).mono ?_;rintro e wz ⟨rfl,hwz⟩;obtain rfl:wq=wz:=hwz.symm));refine fE (fH (t:=26) (fr:=(0,0)) rfl _ _ (w.heap.size+1) _ _ rfl (iI (iI kQ.out 0 _) 1 _) underlying26 rfl (by kernel_rfl)) rfl ?_;exact⟨rfl,Fr.iK (Fr.iK Rs.out (by omega)) (by omega)⟩
end Go.Proofs.YtnakejhohdbfdacGreatDoor

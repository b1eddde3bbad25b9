import Derived.Test.YtnakejhohdbfdacGreatDoorMbi
set_option maxHeartbeats 4000000
set_option maxRecDepth 10000
namespace Go.Proofs.YtnakejhohdbfdacGreatDoor
open Go.RowKit j9 Lay pS Go.Proofs.Tryz
theorem Rg {Ls:List Ln}{i:Nat}(h:i<Ls.length):Ls[i]?=some (kF Ls i):=by rw[kF,aA h];rfl
def sQ (Ls:List Ln)(f:Nat->Bool):Nat->List MV
 | 0=>[]
 | n+1=>sQ Ls f n++KO n (kF Ls n).x (Lay.parts f (kF Ls n).o)
theorem CZ {Ls:List Ln}{f:Nat->Bool}{d:Nat}(hd:∀i,(kF Ls i).o.length<=d):∀n,(sQ Ls f n).length<=n * (d+1)
 | 0=>aN _
 | n+1=>by
   have ih:=CZ (f:=f) hd n;have h1:=(pq f (kF Ls n).o ((kF Ls n).o.length+1)).1;have h2:=hd n;rw[sQ,aD,KO,cP,Nat.succ_mul];unfold Lay.parts;omega
def snp (Bd:List Int)(z off:Int)(up:Bool):Int:=mY Bd (min (max off 0) z) up (cidx Bd (min (max off 0) z))
def G1 (Bd:List Int)(z a b:Int)(c:Nat):Bool:=decide (cidx Bd (snp Bd z (min a b) false)<=c) && decide (c<cidx Bd (snp Bd z (max a b) true))
theorem Rh (f0 t0 c:Nat)(bf bt:Nat)(w:World)(hf:w.cell? ⟨bf,0,none⟩=some (.int .i64 (f0:Nat)))(ht:w.cell? ⟨bt,0,none⟩=some (.int .i64 (t0:Nat))) :
 Calls prog 104 (#[.int .i64 c]++#[.pointer (some ⟨bf,0,none⟩),.pointer (some ⟨bt,0,none⟩)]) w fun e w'=>e=.returned (.bool (decide (f0<=c) && decide (c<t0)))/\∃q,w'=w.drewN q:=by
 by_cases h1:f0<=c
 ·have V4:(f0:Int)<=(c:Int):=by omega
  by_cases h2:c<t0
  ·have h2I:(c:Int)<(t0:Int):=by omega
   go_enter func104,ntmps104;go_wp2;go_ret;exact⟨by simp[h1,h2],0,rfl⟩
  ·have h2I:¬(c:Int)<(t0:Int):=by omega
   go_enter func104,ntmps104;go_wp2;go_ret;exact⟨by simp,0,rfl⟩
 ·have V4:¬(f0:Int)<=(c:Int):=by omega
  go_enter func104,ntmps104;go_wp2;go_ret;exact⟨by simp,0,rfl⟩
theorem M4 (args:Array Value)(w:World):(callFunc 104 args).run prog w=.ok (.enter 104 args) w:=by kernel_rfl
theorem C4 (B P:Nat)(Bd V X:List Int)(r z:Int)(Ls:List Ln)(v0 v1 v2 vL:Value)(hs:List Value)(a b:Int)(w:World)(h:LP w B P Bd V X r Ls v0 v1 v2 vL hs)(hr:jN Bd z)(hz:0<=z)(hbl:Bd.length<=1000)(Dr:0<Ls.length)(hK:Ls.length<=400)(hlo:∀l∈Ls,l.o.length<=1000/\l.x.length=l.o.length+1) :
 Calls prog 64 #[.pointer (some ⟨P,0,none⟩),.int .i64 a,.int .i64 b] w fun e w'=>∃v,e=.returned v/\w'.ownsRow w.heap.size 251 5 v (sQ Ls (G1 Bd z a b) Ls.length).length (jH (sQ Ls (G1 Bd z a b) Ls.length))/\Fr [] w w':=by
 have hl0:=hr.len;obtain⟨gB,cB,hvB,_,wR⟩:=h.b.row hl0;subst hvB;obtain⟨xa,hxa⟩:∃xa,xa=snp Bd z (min a b) false:=⟨_,rfl⟩;obtain⟨xb,hxb⟩:∃xb,xb=snp Bd z (max a b) true:=⟨_,rfl⟩
 have H1:=hid (fun(Y:World) (hf:Fr [] w Y)=>show Calls prog 40 #[.slice (some ⟨gB,0,none⟩) Bd.length cB,.int .i64 (min a b),.bool false] Y fun e w'=>e=.returned (.int .i64 xa)/\∃q,w'=Y.drewN q by
  obtain⟨k,hk⟩:=kO (min (max (min a b) 0) z) Bd hr.sorted
  have h1:=Cls.pz Bd z hr (min a b) false k gB cB Y hz hk (by omega) (fun j hj=>wR.fr hf aj j hj)
  rw[show k=cidx Bd (min (max (min a b) 0) z)from(mP hk).symm]at h1
  rw[hxa];exact h1)
 have H2:=hid (fun(Y:World) (hf:Fr [] w Y)=>show Calls prog 40 #[.slice (some ⟨gB,0,none⟩) Bd.length cB,.int .i64 (max a b),.bool true] Y fun e w'=>e=.returned (.int .i64 xb)/\∃q,w'=Y.drewN q by
  obtain⟨k,hk⟩:=kO (min (max (max a b) 0) z) Bd hr.sorted
  have h1:=Cls.pz Bd z hr (max a b) true k gB cB Y hz hk (by omega) (fun j hj=>wR.fr hf aj j hj)
  rw[show k=cidx Bd (min (max (max a b) 0) z)from(mP hk).symm]at h1
  rw[hxb];exact h1)
 obtain⟨fa,hfa⟩:∃fa,fa=cidx Bd xa:=⟨_,rfl⟩;obtain⟨fb,hfb⟩:∃fb,fb=cidx Bd xb:=⟨_,rfl⟩
 have H3:=hid (fun(Y:World) (hf:Fr [] w Y)=>show Calls prog 100 #[.agg #[.slice (some ⟨gB,0,none⟩) Bd.length cB,v1,v2],.int .i64 xa] Y fun e w'=>e=.returned (.int .i64 (fa:Nat))/\Fr [] Y w' by
  rw[hfa];exact wO Bd z hr xa gB cB Bd.length v1 v2 Y rfl hbl (wR.fr hf aj))
 have H4:=hid (fun(Y:World) (hf:Fr [] w Y)=>show Calls prog 100 #[.agg #[.slice (some ⟨gB,0,none⟩) Bd.length cB,v1,v2],.int .i64 xb] Y fun e w'=>e=.returned (.int .i64 (fb:Nat))/\Fr [] Y w' by
  rw[hfb];exact wO Bd z hr xb gB cB Bd.length v1 v2 Y rfl hbl (wR.fr hf aj))
 obtain⟨f,hf⟩:∃f,f=G1 Bd z a b:=⟨_,rfl⟩;have DB:=hid (fun c=>show f c=(decide (fa<=c) && decide (c<fb)) by rw[hf,hfa,hfb,hxa,hxb];rfl);rw[<-hf];have p0:=iG h.o (i:=0) (v:=.slice (some ⟨gB,0,none⟩) Bd.length cB) rfl;have p1:=iG h.o (i:=1) (v:=v1) rfl;have p2:=iG h.o (i:=2) (v:=v2) rfl;have za:P<w.heap.size:=fC _ _ p0;obtain⟨gL,cL,DE⟩:=iQ Dr h.l;subst DE;have GA:=hid h;have NR:=hid hlo;obtain⟨K,hKK⟩:∃K,K=Ls.length:=⟨_,rfl⟩;have HK:=hid hKK;rw[<-hKK]at Dr hK ⊢;obtain⟨nB,Sz⟩:∃nB,nB=Bd.length:=⟨_,rfl⟩;have Fw:=hid Sz;rw[<-Sz]at H1 H2 H3 H4 hbl p0;clear h hr wR hxa hxb hfa hfb hf hlo hKK hl0 Sz;go_enter func64,ntmps64;go_wp2_with fail;go_cut [7]from 13 to 99 (fun v wx=>∃bf,v=.pointer (some ⟨bf,0,none⟩)/\Hid (wx.cell? ⟨bf,0,none⟩=some (.int .i64 (fa:Nat))/\Fr [] w wx))
 case first =>
  go_region_held (fun wz=>wz.cell? ⟨P,0,none⟩=some (.slice (some ⟨gB,0,none⟩) nB cB)/\wz.cell? ⟨P,1,none⟩=some v1/\wz.cell? ⟨P,2,none⟩=some v2) (first | exact l9 | exact And.intro (Ff.out.cell p0 aj) (And.intro (Ff.out.cell p1 aj) (Ff.out.cell p2 aj)) | exact And.intro (YC.out.cell p0 aj) (And.intro (YC.out.cell p1 aj) (YC.out.cell p2 aj)) | exact And.intro (AR.out.cell p0 aj) (And.intro (AR.out.cell p1 aj) (AR.out.cell p2 aj)) | go_keep)
   (first
     | (go_at_call 40;refine(H1.out _ ?fa).mono ?_;(case fa=>(first | exact(Fr.refl [] w).drew | exact jf _ _ | exact(jf _ _).alloc _ | exact(Fr.refl [] w).drew.alloc _ | exact((Fr.refl [] w).drew.alloc _).drewN _ | exact((Fr.refl [] w).alloc _).drewN _));rintro e w1 ⟨rfl,q,rfl⟩)
     | (go_at_call 100;refine(H3.out _ ?fa).mono ?_;(case fa=>(first | exact(Fr.refl [] w).drew | exact jf _ _ | exact(jf _ _).alloc _ | exact(Fr.refl [] w).drew.alloc _ | exact((Fr.refl [] w).drew.alloc _).drewN _ | exact((Fr.refl [] w).alloc _).drewN _));rintro e w2 ⟨rfl,hf2⟩;have HG2:=hid (show Fr [] w w2 from Fr.trans (by(first | exact(Fr.refl [] w).drew | exact jf _ _ | exact(jf _ _).alloc _ | exact(Fr.refl [] w).drew.alloc _ | exact((Fr.refl [] w).drew.alloc _).drewN _ | exact((Fr.refl [] w).alloc _).drewN _)) hf2);have l9:=And.intro (HG2.out.cell p0 aj) (And.intro (HG2.out.cell p1 aj) (HG2.out.cell p2 aj));(first | (have AF:=hid (show w2.heap[w.heap.size]?=some (.cells #[.int .i64 0] 3 (0,0))from by first | exact iJ (iL (w.drewN _) _) hf2 aj | exact iJ (iJ (iL w.drew _) (jf _ _) aj) hf2 aj);have b0:=iG AF.out (i:=0) (v:=.int .i64 0) rfl;have k0:=iH AF.out 0) | skip);have Ff:=hid (Fr.iK (b:=w.heap.size) (i:=0) (v:=.int .i64 (fa:Nat)) HG2.out (au _));have AR:=hid (show Fr [] w (w2.alloc (.cells #[.int .i64 0] 3))from HG2.out.alloc _);have YC:=hid (Fr.iK (b:=w2.heap.size) (i:=0) (v:=.int .i64 (fa:Nat)) AR.out HG2.out.size);clear hf2))
  all_goals (
   go_wp2
   go_meet
   first | exact⟨_,rfl,hid ⟨gu _ _ _ b0,Ff.out⟩⟩ | exact⟨_,rfl,hid ⟨iG (iL w2 _) rfl,HG2.out.alloc _⟩⟩)
 case rest =>
  obtain⟨bf,rfl,HB⟩:=hcut;obtain⟨w3,hw3⟩:∃w3,w3=wc:=⟨_,rfl⟩;rw[<-hw3]at HB ⊢;have jQ:=hid HB.out.2;have PC:=hid HB.out.1;have q0:=jQ.out.cell p0 aj;have q1:=jQ.out.cell p1 aj;have q2:=jQ.out.cell p2 aj;have ajA:P<w3.heap.size:=fC _ _ q0;clear hw3 HB H1 H3 p0 p1 p2;go_wp2_with fail;go_cut [8]from 13 to 99 (fun v wx=>∃bt,v=.pointer (some ⟨bt,0,none⟩)/\Hid (wx.cell? ⟨bt,0,none⟩=some (.int .i64 (fb:Nat))/\Fr [] w3 wx))
  case first =>
   go_region_held (fun wz=>wz.cell? ⟨P,0,none⟩=some (.slice (some ⟨gB,0,none⟩) nB cB)/\wz.cell? ⟨P,1,none⟩=some v1/\wz.cell? ⟨P,2,none⟩=some v2) (first | exact l9 | exact And.intro (Ff.out.cell q0 aj) (And.intro (Ff.out.cell q1 aj) (Ff.out.cell q2 aj)) | exact And.intro (YC.out.cell q0 aj) (And.intro (YC.out.cell q1 aj) (YC.out.cell q2 aj)) | exact And.intro (AR.out.cell q0 aj) (And.intro (AR.out.cell q1 aj) (AR.out.cell q2 aj)) | go_keep)
    (first
      | (go_at_call 40;refine(H2.out _ ?fa).mono ?_;(case fa=>refine jQ.out.trans ?_;(first | exact(Fr.refl [] w3).drew | exact jf _ _ | exact(jf _ _).alloc _ | exact(Fr.refl [] w3).drew.alloc _ | exact((Fr.refl [] w3).drew.alloc _).drewN _ | exact((Fr.refl [] w3).alloc _).drewN _));rintro e w1 ⟨rfl,q,rfl⟩)
      | (go_at_call 100;refine(H4.out _ ?fa).mono ?_;(case fa=>refine jQ.out.trans ?_;(first | exact(Fr.refl [] w3).drew | exact jf _ _ | exact(jf _ _).alloc _ | exact(Fr.refl [] w3).drew.alloc _ | exact((Fr.refl [] w3).drew.alloc _).drewN _ | exact((Fr.refl [] w3).alloc _).drewN _));rintro e w2 ⟨rfl,hf2⟩;have HG2:=hid (show Fr [] w3 w2 from Fr.trans (by(first | exact(Fr.refl [] w3).drew | exact jf _ _ | exact(jf _ _).alloc _ | exact(Fr.refl [] w3).drew.alloc _ | exact((Fr.refl [] w3).drew.alloc _).drewN _ | exact((Fr.refl [] w3).alloc _).drewN _)) hf2);have l9:=And.intro (HG2.out.cell q0 aj) (And.intro (HG2.out.cell q1 aj) (HG2.out.cell q2 aj));(first | (have AF:=hid (show w2.heap[w3.heap.size]?=some (.cells #[.int .i64 0] 3 (0,0))from by first | exact iJ (iL (w3.drewN _) _) hf2 aj | exact iJ (iJ (iL w3.drew _) (jf _ _) aj) hf2 aj);have b0:=iG AF.out (i:=0) (v:=.int .i64 0) rfl;have k0:=iH AF.out 0) | skip);have Ff:=hid (Fr.iK (b:=w3.heap.size) (i:=0) (v:=.int .i64 (fb:Nat)) HG2.out (au _));have AR:=hid (show Fr [] w3 (w2.alloc (.cells #[.int .i64 0] 3))from HG2.out.alloc _);have YC:=hid (Fr.iK (b:=w2.heap.size) (i:=0) (v:=.int .i64 (fb:Nat)) AR.out HG2.out.size);clear hf2))
   all_goals (
    go_wp2
    go_meet
    first | exact⟨_,rfl,hid ⟨gu _ _ _ b0,Ff.out⟩⟩ | exact⟨_,rfl,hid ⟨iG (iL w2 _) rfl,HG2.out.alloc _⟩⟩)
  case rest =>
   obtain⟨bt,rfl,HB⟩:=hcut;obtain⟨w4,hw4⟩:∃w4,w4=wc:=⟨_,rfl⟩;rw[<-hw4]at HB ⊢;have jI:=hid (jQ.out.trans HB.out.2);have HBT:=hid HB.out.1;have afB:=hid (HB.out.2.cell PC.out aj);clear hw4 HB H2 H4 q0 q1 q2 PC;have hmf:∀(fn:Fn) (first cap:Array Value) (w:World),(Instr.makeFunc fn first cap).run prog w=.ok (.func fn first cap) w:=fun _ _ _ _=>rfl
   have s3:=jI.out.cell (iG GA.out.o (i:=3) (v:=.slice (some ⟨gL,0,none⟩) Ls.length cL) rfl) aj;rw[<-HK.out]at s3;go_wp2_with fail;have afC:=fY KP;obtain⟨i0,hi,hz0,hz1,hz2⟩:=afC
   have Xm:=hid (fun n (hn:n<=K)=>show(sQ Ls f n).length<=401 * 1001 from aK (CZ (f:=f) (d:=1000) (fun i=>by
    by_cases hi:i<Ls.length
    ·exact(NR.out _ (ny hi)).1
    ·unfold kF;rw[bN (by omega)];exact aN _) n) (Nat.mul_le_mul (by omega) (au _)))
   clear s3;go_loopw [10,47] (fun vo kk wr=>∃t:Nat,kk=.int .i64 t/\t<=K/\Hid (Fr [] w4 wr)/\Hid (wr.ownsRow w4.heap.size 251 5 vo (sQ Ls f t).length (jH (sQ Ls f t)))) (fun _ kk _=>K - (intOf kk).toNat)
   case atStart=>exact⟨0,rfl,aN _,hid (Fr.refl _ _),hid (fQ _ _ _ _)⟩
   case round =>
    obtain⟨t,rfl,htK,KB,Wp⟩:=hrel;have qQ:=hid (jI.out.trans KB.out);by_cases htl:t<K
    ·have V6:(t:Int)<(K:Int):=by omega
     have HLt:=hid (GA.out.fr qQ.out (fun k hk=>absurd hk aj));obtain⟨U,_,hn⟩:=HLt.out.n;obtain⟨vO,vX,a1,a2,a3,a4,a5,a6,_,_⟩:=hn t _ (Rg (by rw[<-HK.out];exact htl));have hll:=HLt.out.l;have hmem:=ny (show t<Ls.length by rw[<-HK.out];exact htl);obtain⟨hlo,hlx⟩:=NR.out _ hmem;obtain⟨gX,cX,Jn⟩:=iQ (by rw[hlx];omega) a6;subst Jn;obtain⟨aO,cO,MU⟩:=iW a5;subst MU;have hhl:=hll.1;have c0:wr.cell? ⟨gL,t * 4,none⟩=some (.int .i64 (kF Ls t).f):=by rw[hll.cellAt _ (by have:=HK.out;omega)];exact a1
     have c1:wr.cell? ⟨gL,t * 4+1,none⟩=some (.int .i64 (kF Ls t).t):=by rw[hll.cellAt _ (by have:=HK.out;omega)];exact a2
     have c2:wr.cell? ⟨gL,t * 4+2,none⟩=some (.slice aO (kF Ls t).o.length cO):=by rw[hll.cellAt _ (by have:=HK.out;omega)];exact a3
     have c3:wr.cell? ⟨gL,t * 4+3,none⟩=some (.slice (some ⟨gX,0,none⟩) (kF Ls t).x.length cX):=by rw[hll.cellAt _ (by have:=HK.out;omega)];exact a4
     obtain⟨o,ho⟩:∃o,o=(kF Ls t).o:=⟨_,rfl⟩;obtain⟨x,hx⟩:∃x,x=(kF Ls t).x:=⟨_,rfl⟩;rw[<-ho]at a5 hlo hlx c2;rw[<-hx]at a6 hlx c3;have HA5:=hid a5;have HXC:=hid (fun(Y:World) (hf:Fr [] wr Y) (k:Nat) (hk:k<x.length)=>show Y.cell? ⟨gX,k,none⟩=some (.int .i64 (nth x k))from hf.cell (by rw[a6.cellAt _ (by omega)];exact k_ hk) aj);have YD:=hid (show sQ Ls f (t+1)=sQ Ls f t++KO t x (Lay.parts f o) by rw[sQ,ho,hx]);have hsz:=Xm.out t htK;have hsz1:=Xm.out (t+1) htl;rw[YD.out,aD]at hsz1;generalize (kF Ls t).f=lf at *;generalize (kF Ls t).t=lt at *;have ZO:=hid hlx;have HPR:=hid (UD f o)
     have Zx:=hid (fun(Y:World) (hf:Fr [] wr Y)=>M3 104 #[.pointer (some ⟨bf,0,none⟩),.pointer (some ⟨bt,0,none⟩)] f o B _ Y hlo (iM HA5.out hf) M4 (fun Z hZ i hi=>by
      rw[DB.out]
      exact Rh fa fb _ bf bt Z ((KB.out.trans (hf.trans hZ)).cell afB.out aj) ((KB.out.trans (hf.trans hZ)).cell HBT.out aj)))
     obtain⟨lx,UE⟩:∃lx,lx=x.length:=⟨_,rfl⟩;have ajF:=hid UE;rw[<-UE]at c3;have L3:=hid (show(Lay.parts f o).length<=1001 from aK (pq f o (o.length+1)).1 (by omega));obtain⟨lo,YE⟩:∃lo,lo=o.length:=⟨_,rfl⟩;rw[<-YE]at Zx c2;have Fu:=hid (fun(Y:World) (v:Value) (B':Nat) (hf:Fr [] wr Y) (h9:Y.ownsRow B' 249 2 v (Lay.parts f o).length (mG (Lay.parts f o)))=>MW t lf lt (.slice aO o.length cO) gX cX x (Lay.parts f o) v B' Y (HXC.out Y hf) h9 (fun p hp=>by have h8:=HPR.out.inn p hp;have:=ZO.out;exact⟨h8.1,by omega⟩) (by have:=L3.out;omega));rw[<-UE,<-YE]at Fu;obtain⟨L,hL⟩:∃L,L=Lay.parts f o:=⟨_,rfl⟩;obtain⟨M,hM⟩:∃M,M=KO t x L:=⟨_,rfl⟩;rw[<-hL]at Zx Fu YD hsz1;rw[<-hM]at Fu YD hsz1;obtain⟨S0,hS0⟩:∃S0,S0=sQ Ls f t:=⟨_,rfl⟩;rw[<-hS0]at Wp YD hsz hsz1;clear hn hll a1 a2 a3 a4 a5 a6 UE YE hmem hlo hlx ho hx hL hM hS0;go_wp2_with fail;clear c0 c1 c2 c3;obtain⟨w5,nK⟩:∃w5,w5=wr.alloc (.cells #[.int .i64 lf,.int .i64 lt,.slice aO lo cO,.slice (some ⟨gX,0,none⟩) lx cX] 69):=⟨_,rfl⟩;obtain⟨gP,MX⟩:∃gP,gP=wr.heap.size:=⟨_,rfl⟩;have pF:=hid (show Fr [] wr w5 by rw[nK];exact(Fr.refl [] wr).alloc _);have G2:=hid (show w5.heap[gP]?=some (.cells #[.int .i64 lf,.int .i64 lt,.slice aO lo cO,.slice (some ⟨gX,0,none⟩) lx cX] 69 (0,0)) by rw[nK,MX];exact iL wr _);have ajG:w5.heap.size=gP+1:=by rw[nK,MX];simp
     have hwl:=KB.out.size;have E0:=hid (fun g (hg:u10.ownBlock=some g)=>show w4.heap.size<=g/\g<gP by rw[MX];exact Wp.out.lt g hg);have rK:=hid (iM Wp.out pF.out);rw[<-nK,<-MX];rw[<-MX]at hwl;clear nK MX
     have V7:=hid (fun(w1' w':World) (hf:Fr [] w5 w1') (hg:w1'.grownBy w' u10.ownBlock)=>show w'.cell? ⟨gP,0,none⟩=some (.int .i64 lf)/\w'.cell? ⟨gP,1,none⟩=some (.int .i64 lt)/\w'.cell? ⟨gP,2,none⟩=some (.slice aO lo cO)/\w'.cell? ⟨gP,3,none⟩=some (.slice (some ⟨gX,0,none⟩) lx cX)from by
      have hs:=hf.size
      have GP:=iJ G2.out hf aj
      have UF:=(hg.block gP (by omega) (fun e=>by have:=E0.out gP e.symm;omega)).trans GP
      exact⟨iG UF (i:=0) rfl,iG UF (i:=1) rfl,iG UF (i:=2) rfl,iG UF (i:=3) rfl⟩)
     have UG:=hid (fun(w':World) (hf:Fr [] w5 w')=>V7.out w' w' hf ⟨rfl,rfl,rfl,au _,fun _ _ _=>rfl⟩);obtain⟨s0,s1,s2,s3⟩:=UG.out w5 (Fr.refl _ _);go_region_held_law (fun w'=>w'.cell? ⟨gP,0,none⟩=some (.int .i64 lf)/\w'.cell? ⟨gP,1,none⟩=some (.int .i64 lt)/\w'.cell? ⟨gP,2,none⟩=some (.slice aO lo cO)/\w'.cell? ⟨gP,3,none⟩=some (.slice (some ⟨gX,0,none⟩) lx cX)) (first | exact l9 | go_keep)
      (first
        | (go_at_call 106;refine(Zx.out _ ?fa).mono ?_;(case fa=>first | exact pF.out.drew | exact pF.out);rintro e w6 ⟨vP,rfl,M5,jJ⟩;have lu:=hid (show Fr [] w5 w6 from Fr.trans (by first | exact(Fr.refl [] w5).drew | exact Fr.refl [] w5) jJ);have Jo:=hid M5;have l9:=UG.out w6 lu.out;clear M5 jJ)
        | (go_at_call 105;refine(Fu.out w6 vP _ (pF.out.trans lu.out) Jo.out).mono ?_;rintro e w7 ⟨vM,rfl,abV,I_⟩;have tA:=hid (lu.out.trans I_);have vg:=hid abV;have l9:=UG.out w7 tA.out;clear abV I_)
        | (refine MY rfl (.tmp 52) (.tmp 59) 29 rfl w4.heap.size 251 i0 _ 5 40 underlying29 hi hz0 hz1 hz2 rfl (by decide) u10 S0.length (jH S0) ?q1 ?q2 w6.heap.size vM M.length (jH M) ?q3 ?q4 (Ar _) (by unfold maxLen;omega) (by omega) ?q5 ?_;(case q1=>first | rfl | simp[Act.eval]);(case q2=>exact iM rK.out tA.out);(case q3=>first | rfl | simp[Act.eval]);(case q4=>exact vg.out);(case q5=>have:=tA.out.size;omega);intro v' w' hown hgrow;have nH:=hid hown;have HG2:=hid hgrow;have l9:=V7.out _ _ tA.out hgrow;clear hown hgrow))
     all_goals (
      have DC:=hid (show Fr [] w4 w' from Fr.grown ((KB.out.trans pF.out).trans tA.out) HG2.out (fun g hg=>by have:=E0.out g hg;omega))
      have Um:=hid (show w'.ownsRow w4.heap.size 251 5 v' (sQ Ls f (t+1)).length (jH (sQ Ls f (t+1))) by rw[YD.out,aD,<-uj];exact nH.out)
      go_wp2
      go_roundw
      case rel=>exact⟨t+1,by go_num,by omega,DC,Um⟩
      case measure=>simp[intOf];omega)
    ·obtain rfl:t=K:=by omega
     have V6:¬(t:Int)<(t:Int):=by omega
     go_wp2;go_ret;exact⟨_,rfl,iU Wp.out jI.out.size,qQ.out⟩
end Go.Proofs.YtnakejhohdbfdacGreatDoor

import Derived.Test.YtnakejhohdbfdacGreatDoorMbe
set_option maxHeartbeats 4000000
set_option maxRecDepth 10000
namespace Go.Proofs.YtnakejhohdbfdacGreatDoor
open Go.RowKit j9 Lay Go.Proofs.Tryz
def sl0 (w:World)(B:Nat)(v:Value)(l:List Int):Prop:=∃a c,v=.slice a l.length c/\(l.length=0\/∃g,a=some ⟨g,0,none⟩/\B<=g/\rowAt w g l.length l)
theorem sl0.fr {S:List Nat}{w w':World}{B:Nat}{v:Value}{l:List Int}(h:sl0 w B v l)(hf:Fr S w w')(hS:∀k∈S,k<B):sl0 w' B v l:=by
 obtain⟨a,c,h1,h2⟩:=h;refine⟨a,c,h1,h2.imp id ?_⟩;rintro ⟨g,h3,h4,h5⟩;exact⟨g,h3,h4,h5.fr hf (fun hm=>by have:=hS g hm;omega)⟩
theorem sl0.row {w:World}{B:Nat}{v:Value}{l:List Int}(h:sl0 w B v l)(h0:0<l.length):∃g c,v=.slice (some ⟨g,0,none⟩) l.length c/\B<=g/\rowAt w g l.length l:=by
 obtain⟨a,c,h1,h2⟩:=h
 rcases h2 with h3 | ⟨g,rfl,h4,h5⟩
 ·omega
 ·exact⟨g,c,h1,h4,h5⟩
end Go.Proofs.YtnakejhohdbfdacGreatDoor
namespace Go.Proofs.YtnakejhohdbfdacGreatDoor
open Go.RowKit j9 Go.Proofs.Tryz
theorem KK (P:Int->Prop)(h0:P 0):∀(l:List (Int × Int × Int)) (r:Int),(∀x∈l,P x.2.2)->P (jg.look l r)
 | [],_,_=>h0
 | x :: l,r,h=>by
   rw[jg.look];split
   ·exact h x bX
   ·exact KK P h0 l r (fun y hy=>h y (dH _ hy))
theorem QC (r:Int):0<=jg.look jg.iY r/\jg.look jg.iY r<=22 :=
 KK (fun c=>0<=c/\c<=22) (by decide) jg.iY r (by decide)
theorem abF (s:ByteArray)(n:Nat):∀i,0<=nth (Kl s n) i/\nth (Kl s n) i<=22:=fun i=>by
 by_cases h:i<n
 ·have e:nth (Kl s n) i=jg.look jg.iY (Dec.rune s i):=by simp[nth,Kl,h]
  rw[e];exact QC _
 ·have e:nth (Kl s n) i=0:=by simp[nth,Kl,h]
  rw[e];decide
open Lay pS
theorem CT {s:ByteArray}{n:Nat}{b:Int}{W Br:List Int}(h:Dec.Ends s n)(hs:s.size<=400)(hb:b=0\/b=1\/b=2)(hc:Tm s n (zY s n) b W Br=0) :
 W.length=n/\Lay.Zu W n=true/\Lay.nX (bnd s n) s.size Br Br.length=true:=by
 rw[PI h hs hb]at hc;cases h1:okW W n
 ·rw[aE h1]at hc;cases hc
 ·cases h2:Lay.nX (bnd s n) s.size Br Br.length
  ·rw[ay (by rw[h1];decide),aE h2]at hc;cases hc
  ·unfold okW at h1
   rw[dK]at h1;exact⟨dD h1.1,h1.2,rfl⟩
def Ie (s:ByteArray)(n:Nat)(bs:Int)(Br:List Int):List Int:=AP s (vw (Kl s n) (levels (Rl s n) (Kl s n) bs) bs (TF (jd s n) (bnd s n) Br) 0) n
structure LP (w:World)(B P:Nat)(Bd V X:List Int)(r:Int)(Ls:List Ln)(v0 v1 v2 vL:Value)(hs:List Value):Prop where
 o:w.heap[P]?=some (.cells #[v0,v1,v2,vL,.int .i64 r] 148 (0,0))
 le:B<=P
 b:sl0 w B v0 Bd
 v:sl0 w B v1 V
 x:sl0 w B v2 X
 l:w.ownsRow B 69 4 vL Ls.length hs
 n:∃U,U<=w.heap.size/\mU w B U hs Ls
theorem LP.fr {S:List Nat}{w w':World}{B P:Nat}{Bd V X:List Int}{r:Int}{Ls:List Ln}{v0 v1 v2 vL:Value}{hs:List Value}(h:LP w B P Bd V X r Ls v0 v1 v2 vL hs)(hf:Fr S w w')(hS:∀k∈S,k<B):LP w' B P Bd V X r Ls v0 v1 v2 vL hs:=by
 obtain⟨U,hU,hn⟩:=h.n;exact⟨iJ h.o hf (fun hm=>by have:=hS P hm;have:=h.le;omega),h.le,h.b.fr hf hS,h.v.fr hf hS,h.x.fr hf hS,Cd h.l hf hS,U,aK hU hf.size,hn.fr (fun _ _ _ _ _ _ h=>Cd h hf hS)⟩
theorem KL {s:ByteArray}{n:Nat}{Br:List Int}(E:rP s n Br):∀k,k<=Br.length+1->k<=kV s n Br k
 | 0,_=>aN _
 | k+1,h=>by
   have h1:=KL E k (by omega);have h2:=E.mono k (k+1) (by omega) h;unfold kV at *;omega
theorem abG (s:ByteArray){n i:Nat}(h:i<n):nth (Kl s n) i=jg.look jg.iY (Dec.rune s i):=by simp[nth,Kl,h]
theorem xZ {S:List Nat}{w w':World}{g:Nat}{l:List (Int × Int × Int)}(h:Cls.TabAt w g l)(hf:Fr S w w')(hg:g ∉ S):Cls.TabAt w' g l:=fun i hi =>
 ⟨hf.cell (h i hi).1 hg,hf.cell (h i hi).2.1 hg,hf.cell (h i hi).2.2 hg⟩
theorem Fa {w:World}{B g c n:Nat}{l:List Int}(hl:l.length=n)(hg:B<=g)(hr:rowAt w g n l):sl0 w B (.slice (some ⟨g,0,none⟩) n c) l:=by
 subst hl;exact⟨_,_,rfl,.inr ⟨g,rfl,hg,hr⟩⟩
theorem Ei (K C:List Int)(base:Int)(L:List Int):∀k,(jZ K C base k L).2.length=L.length
 | 0=>rfl
 | k+1=>by
   have ih:=Ei K C base L k;rw[jZ];split <;> rw[bK,ih]
theorem nC (R K:List Int)(base:Int)(hb:base=0\/base=1):(levels R K base).length=K.length:=by
 unfold levels;rw[Ei];exact(pM K base hb K.length (au _)).len.1
theorem x_ (s:ByteArray)(Br:List Int)(aB:Option Addr)(cB:Nat)(w:World)(hB:zy w (.slice aB Br.length cB) Br)(hl:Br.length<=1000) :
 Calls prog 110 #[.slice (some ⟨w.heap.size+1+1,0,none⟩) 3 3] (((w.alloc (.cells #[.int .i64 0] 3)).alloc (.cells #[.int .i64 s.size] 3)).alloc (.cells #[.slice (some ⟨w.heap.size,0,none⟩) 1 1,.slice aB Br.length cB,.slice (some ⟨w.heap.size+1,0,none⟩) 1 1] 32))
  fun e w'=>∃g c,e=.returned (.slice (some ⟨g,0,none⟩) (Br.length+2) c)/\Br.length+2<=c/\w.heap.size<=g/\rowAt w' g (Br.length+2) (CQ s Br)/\Fr [] w w':=by
 obtain⟨wc,hwc⟩:∃wc,wc=((w.alloc (.cells #[.int .i64 0] 3)).alloc (.cells #[.int .i64 s.size] 3)).alloc (.cells #[.slice (some ⟨w.heap.size,0,none⟩) 1 1,.slice aB Br.length cB,.slice (some ⟨w.heap.size+1,0,none⟩) 1 1] 32):=⟨_,rfl⟩;rw[<-hwc];have hf:Fr [] w wc:=by rw[hwc];exact(((Fr.refl [] w).alloc _).alloc _).alloc _
 have hsz:wc.heap.size=w.heap.size+3:=by rw[hwc];simp
 have k0:wc.heap[w.heap.size]?=some (.cells #[.int .i64 0] 3 (0,0)):=by
  rw[hwc];exact iJ (iL w _) (((Fr.refl [] _).alloc _).alloc _) aj
 have k1:wc.heap[w.heap.size+1]?=some (.cells #[.int .i64 s.size] 3 (0,0)):=by
  have h:=iJ (iL (w.alloc (.cells #[.int .i64 0] 3)) (.cells #[.int .i64 s.size] 3)) ((Fr.refl [] _).alloc (.cells #[.slice (some ⟨w.heap.size,0,none⟩) 1 1,.slice aB Br.length cB,.slice (some ⟨w.heap.size+1,0,none⟩) 1 1] 32)) aj;rw[<-hwc]at h;simpa using h
 have k2:wc.heap[w.heap.size+1+1]?=some (.cells #[.slice (some ⟨w.heap.size,0,none⟩) 1 1,.slice aB Br.length cB,.slice (some ⟨w.heap.size+1,0,none⟩) 1 1] 32 (0,0)):=by
  have h:=iL ((w.alloc (.cells #[.int .i64 0] 3)).alloc (.cells #[.int .i64 s.size] 3)) (.cells #[.slice (some ⟨w.heap.size,0,none⟩) 1 1,.slice aB Br.length cB,.slice (some ⟨w.heap.size+1,0,none⟩) 1 1] 32);rw[<-hwc]at h;simpa using h
 clear hwc;obtain⟨L,hL⟩:∃L:Nat->List Int,L=fun i=>if i=0 then [0]else if i=1 then Br else [((s.size:Nat):Int)]:=⟨_,rfl⟩
 obtain⟨H,hH⟩:∃H:Nat->Value,H=fun i=>if i=0 then .slice (some ⟨w.heap.size,0,none⟩) 1 1 else if i=1 then .slice aB Br.length cB else .slice (some ⟨w.heap.size+1,0,none⟩) 1 1:=⟨_,rfl⟩
 have Yp:kJ L 3=CQ s Br:=Uo s Br L (by rw[hL];rfl) (by rw[hL];rfl) (by rw[hL];rfl);have h:=Ju L H (w.heap.size+1+1) 3 3 wc (by omega)
  (fun i hi=>by
    rcases(show i=0\/i=1\/i=2 by omega)with rfl | rfl | rfl
    ·rw[hH];exact iG k2 (i:=0) rfl
    ·rw[hH];exact iG k2 (i:=1) rfl
    ·rw[hH];exact iG k2 (i:=2) rfl)
  (fun i hi=>by
    rcases(show i=0\/i=1\/i=2 by omega)with rfl | rfl | rfl
    ·rw[hH,hL]
     exact⟨_,_,rfl,.inr ⟨_,rfl,fun j hj=>by
      obtain rfl:j=0:=Nat.lt_one_iff.1 hj
      exact iG k0 (i:=0) rfl⟩⟩
    ·rw[hH,hL];exact hB.fr hf
    ·rw[hH,hL]
     exact⟨_,_,rfl,.inr ⟨_,rfl,fun j hj=>by
      obtain rfl:j=0:=Nat.lt_one_iff.1 hj
      exact iG k1 (i:=0) rfl⟩⟩)
  (by rw[Yp,pP];omega) (by rw[Yp,pP];omega)
 rw[Yp,pP]at h;refine h.mono ?_;rintro e w' ⟨g,c,rfl,own,hf2⟩;refine⟨g,c,rfl,uR own,by have:=(ji own).1;omega,fun j hj=>?_,hf.trans hf2⟩;rw[own.cellAt j (by omega),k_ (by rw[pP];exact hj)]
theorem sl0.low {w:World}{B B':Nat}{v:Value}{l:List Int}(h:sl0 w B v l)(hb:B'<=B):sl0 w B' v l:=by
 obtain⟨a,c,rfl,h0 | ⟨g,h1,h2,h3⟩⟩:=h
 ·exact⟨a,c,rfl,.inl h0⟩
 ·exact⟨a,c,rfl,.inr ⟨g,h1,aK hb h2,h3⟩⟩
theorem LP.low {w:World}{B B' P:Nat}{Bd V X:List Int}{r:Int}{Ls:List Ln}{v0 v1 v2 vL:Value}{hs:List Value}(h:LP w B P Bd V X r Ls v0 v1 v2 vL hs)(hb:B'<=B):LP w B' P Bd V X r Ls v0 v1 v2 vL hs:=by
 obtain⟨U,hU,hn⟩:=h.n;refine⟨h.o,aK hb h.le,h.b.low hb,h.v.low hb,h.x.low hb,iU h.l hb,U,hU,fun j l hj=>?_⟩;obtain⟨vO,vX,a1,a2,a3,a4,a5,a6,a7,a8⟩:=hn j l hj;exact⟨vO,vX,a1,a2,a3,a4,iU a5 hb,iU a6 hb,a7,a8⟩
theorem QD (s:ByteArray)(b:Int)(vW vB:Value)(W Br:List Int)(n:Nat)(w:World)(hs:s.size<=400)(hb:b=0\/b=1\/b=2)(hF:Floor w)(hend:Dec.Ends s n)(hn:0<n)(hW:F8 w vW W)(hB:zy w vB Br)(hBl:Br.length<=5000)(hck:Tm s n (zY s n) b W Br=0) :
 Calls prog 66 #[.agg #[.string s,.int .i64 b,vW,vB]] w fun e w'=>∃P v0 v1 v2 vL hs,e=.returned (.pointer (some ⟨P,0,none⟩))/\LP w' w.heap.size P (bnd s n) (Ie s n (j0 (Kl s n) b) Br) (wl s W n) (1 - 2 * j0 (Kl s n) b) (Ic s n (j0 (Kl s n) b) W Br (Br.length+1)) v0 v1 v2 vL hs/\Fr [] w w':=by
 obtain⟨Yq,hw,hbr⟩:=CT hend hs hb hck;have Jb:n<=400:=by have:=Dec.lV s n;have:=hend.1;omega
 have hE:=Gx hend hn Br hbr;have hcn:cn s n<=400:=by have:=jA s n;unfold cn;omega
 have hB4:Br.length+1<=400:=by
  have h1:=KL hE (Br.length+1) (au _);have h2:=hE.le (Br.length+1) (au _);unfold kV at h1;omega
 have hW0:=hW;obtain⟨aW,cW,rfl,hW2⟩:=hW;obtain⟨gW,oW,rfl,hWr⟩:=hW2.resolve_left (by omega);obtain⟨aB,cB,rfl,_⟩:=id hB;rw[Yq]at hWr hW0 ⊢;obtain⟨bs,hbs⟩:∃bs,bs=j0 (Kl s n) b:=⟨_,rfl⟩;have GW:=hid (show bs=0\/bs=1 by rw[hbs];exact nu hb);obtain⟨wb,hwb⟩:∃wb,wb=w.alloc (.cells #[.string s,.int .i64 b,.slice (some ⟨gW,oW,none⟩) n cW,.slice aB Br.length cB] 64):=⟨_,rfl⟩;have j8:=hid (show Fr [] w wb by rw[hwb];exact(Fr.refl [] w).alloc _);have AF:=hid (show wb.heap[w.heap.size]?=some (.cells #[.string s,.int .i64 b,.slice (some ⟨gW,oW,none⟩) n cW,.slice aB Br.length cB] 64 (0,0)) by rw[hwb];exact iL w _);have P5:=hid (fun(X:World) (hf:Fr [] w X)=>hF.fr hf);have h10:2<w.heap.size:=fC _ _ (hF.t4 0 (by decide)).1;have QE:=hid (fun X:World=>Cls.xJ s X (by omega));have Yr:=hid (fun(X:World) (hf:Fr [] w X)=>Yd s b X (by omega) hb (hF.fr hf).t3 (hF.fr hf).t4 n hend hn (by omega) (abF s n));have Pp:=hid hB;have V2:=hid hWr;have HE:=hid hend;have Ur:=hid hE;have HBS:=hid hbs;have HWl:=hid Yq
 have NQ:=hid (show ∀i,0<=nth W i/\nth W i<=1073741824 from fun i=>by
  by_cases hi:i<n
  ·exact O3 hw hi
  ·rw[rT (by omega)];decide)
 have hgW:gW<w.heap.size:=fC _ _ (hWr 0 hn);rw[<-hbs]at Yr;obtain⟨nB,Sz⟩:∃nB,nB=Br.length:=⟨_,rfl⟩;have Fw:=hid Sz;rw[<-Sz]at hwb AF hBl hB4 Pp ⊢;clear hW0 hW2 hWr hend hE hck hbr hw Yq hB hF hb Sz;rw[<-hbs];clear hbs;go_enter func66,ntmps66;go_wp2_with fail;rw[<-hwb];have Gw:wb.heap.size=w.heap.size+1:=by rw[hwb];simp
 clear hwb;have jc:=j8;have lT:=AF;refine(QE.out wb).mono ?_;rintro e w2 ⟨n',v,hn',rfl,own,hb2,_⟩;obtain rfl:=Dec.kW HE.out hn';obtain⟨gT,cT,rfl⟩:=iQ hn own;have hgT:=ji own;have i_:=hid (jc.out.trans (Fr.of_below (S:=[]) hb2));have jO:=hid (iJ lT.out (Fr.of_below (S:=[]) hb2) aj)
 have HT:=hid (show MG w2 gT n (Rl s n) (Dec.pos s)from fun i hi=>by
  obtain⟨q0,q1,q2⟩:=Cls.LS (s:=s) (n:=n) (k:=i) hi
  refine⟨?_,?_,?_⟩
  ·rw[own.cellAt (i * 3) (by omega),q0,Qm s hi]
  ·rw[own.cellAt (i * 3+1) (by omega),q1]
  ·rw[own.cellAt (i * 3+2) (by omega),q2])
 have k0:=iG jO.out (i:=0) (v:=.string s) rfl;have k3:=iG jO.out (i:=3) (v:=.slice aB nB cB) rfl;have hl2:w.heap.size<w2.heap.size:=iO jO.out;have Jx:=hid (x_ s Br aB cB w2 (by have h:=Pp.out.fr i_.out;rw[Fw.out]at h;exact h) (by rw[<-Fw.out];omega));rw[<-Fw.out]at Jx;clear own hb2 hn' QE;go_wp2_with fail;refine Jx.out.mono ?_;rintro e w3 ⟨ge,ce,rfl,hce,hge,Yt,hf3⟩;have jQ:=hid (i_.out.trans hf3);have lD:=hid (iJ jO.out hf3 aj);have HT3:=hid (HT.out.fr hf3 aj);have HE3:=hid Yt;have ajk:ge<w3.heap.size:=fC _ _ (Yt 0 (by omega));have ajl:=hf3.size;have QF:=hid (Yr.out w3 jQ.out);have k0:=iG lD.out (i:=0) (v:=.string s) rfl;have k1:=iG lD.out (i:=1) (v:=.int .i64 b) rfl;clear Yt hf3 Jx k3 Yr;go_wp2_with fail;refine QF.out.mono ?_;rintro e w4 ⟨gL,rfl,hrL,jG,hgL,hsL⟩;have jI:=hid (jQ.out.trans jG);have oI:=hid (iJ lD.out jG aj);have A8:=hid (HT3.out.fr jG aj);have HE4:=hid (HE3.out.fr jG aj);have Uk:gL<w4.heap.size:=fC _ _ (hrL 0 hn);have ajm:=jG.size
 have QG:=hid (t_ gT n cT (Rl s n) (Dec.pos s) gL n ge (nB+2) ce bs s.size (CQ s Br) (Kl s n) (levels (Rl s n) (Kl s n) bs) (TF (jd s n) (bnd s n) Br) w4 hn (by omega) (oG s n) ((nC _ _ _ GW.out).trans (oG s n)) (by omega) (by rw[pP,Fw.out]) (by omega) (MF HE.out Ur.out) A8.out hrL hsL HE4.out (by omega) (by omega)
  (fun x hx X hfX=>by
    have h:=Cls.tD (nth (Rl s n) x) X (xZ (P5.out w4 jI.out).t3 hfX (fun hm=>by have:=ak.1 hm;omega)) (xZ (P5.out w4 jI.out).t4 hfX (fun hm=>by have:=ak.1 hm;omega))
    refine h.mono ?_
    rintro e w' ⟨rfl,hb⟩
    exact⟨by rw[abG s hx,Qm s hx],Fr.of_below hb⟩)
  (fun x hx=>Un HE.out Ur.out (x+1)) (by have h:=LM (Kl s n) (TF (jd s n) (bnd s n) Br);rw[oG]at h;exact h))
 clear k0 k1 QF hrL jG hsL;go_wp2_with fail;refine QG.out.mono ?_;rintro e w5 ⟨rfl,hr5,kK⟩;have pF:=hid (show Fr [] w w5 from jI.out.behind kK (fun k hk=>by rw[ak.1 hk];have:=jQ.out.size;omega));have rK:=hid (iJ oI.out kK (fun hm=>by have:=ak.1 hm;omega));have TY:=hid (A8.out.fr kK (fun hm=>by have:=ak.1 hm;omega));have HE5:=hid (HE4.out.fr kK (fun hm=>by have:=ak.1 hm;omega));have ajn:=kK.size;obtain⟨LV,SJ⟩:∃LV,LV=vw (Kl s n) (levels (Rl s n) (Kl s n) bs) bs (TF (jd s n) (bnd s n) Br) 0:=⟨_,rfl⟩;rw[<-SJ]at hr5;have Fv:=hid SJ;have QH:=hid (ME s n b (.slice aB nB cB) gW oW cW gT cT gL n W LV (Rl s n) w5 (by omega) HE.out hn (P5.out w5 pF.out).t9 (V2.out.fr pF.out aj) NQ.out TY.out hr5);have k0:=iG rK.out (i:=0) (v:=.string s) rfl;have k1:=iG rK.out (i:=1) (v:=.int .i64 b) rfl;have k2:=iG rK.out (i:=2) (v:=.slice (some ⟨gW,oW,none⟩) n cW) rfl;have k3:=iG rK.out (i:=3) (v:=.slice aB nB cB) rfl;clear hr5 kK QG SJ;go_wp2_with fail;refine QH.out.mono ?_;rintro e w6 ⟨vs,rfl,hvs,jJ⟩;obtain⟨gB,AQ,gV,cV,gX,cX,rfl,hrB,hrV,hrX,hgB,hgV,hgX⟩:=hvs.out;have zl:=hid (pF.out.trans jJ);have HE6:=hid (HE5.out.fr jJ aj);have wR:=hid hrB;have Yu:=hid hrV;have HRX:=hid hrX;have ajo:=jJ.size;clear hvs hrB hrV hrX jJ QH k0 k1 k2 k3;obtain⟨w7,hw7⟩:∃w7,w7=w6.alloc (.cells #[.slice (some ⟨gB,0,none⟩) (cn s n+1) AQ,.slice (some ⟨gV,0,none⟩) (cn s n) cV,.slice (some ⟨gX,0,none⟩) (cn s n) cX] 146):=⟨_,rfl⟩;have wS:=hid (show Fr [] w6 w7 by rw[hw7];exact(Fr.refl [] w6).alloc _);have vg:=hid (show w7.heap[w6.heap.size]?=some (.cells #[.slice (some ⟨gB,0,none⟩) (cn s n+1) AQ,.slice (some ⟨gV,0,none⟩) (cn s n) cV,.slice (some ⟨gX,0,none⟩) (cn s n) cX] 146 (0,0)) by rw[hw7];exact iL w6 _)
 have Xp:=hid (show ∀i,0<=nth LV i/\nth LV i<=1000 from fun i=>by
  by_cases hi:i<n
  ·rw[Fv.out,xY (by rw[nC _ _ _ GW.out,oG];exact hi)]
   have:=D_ (Rl s n) (Kl s n) bs GW.out (TF (jd s n) (bnd s n) Br) i
   omega
  ·rw[Fv.out,rT (by rw[mC,nC _ _ _ GW.out,oG];omega)];decide)
 have Wl:=hid (oU (s:=s) hn);have HBN:=hid (show cn s n+1=(bnd s n).length by have:=(jA s n).2.1;rw[lJ HE.out];unfold cn;omega)
 have Yv:=hid (fun(X:World) (hf:Fr [] w7 X)=>Mc (bnd s n) (AP s LV n) (wl s W n) (CQ s Br) s.size gB AQ (cn s n+1) gV (cn s n) cV gX cX ge ce (nB+1) X (jW HE.out) HBN.out (by omega) (by omega) (by omega) (by omega) (by omega)
  ((wR.out.fr wS.out aj).fr hf aj) ((Yu.out.fr wS.out aj).fr hf aj) ((HRX.out.fr wS.out aj).fr hf aj) ((HE6.out.fr wS.out aj).fr hf aj)
  (QA Xp.out) (fun k hk=>by
    have h:=GV s W NQ.out n k (by rw[<-Wl.out];exact hk)
    refine⟨h.1,Int.le_trans h.2 ?_⟩
    omega)
  (fun j hj=>by
    rw[xX HE.out Ur.out (by rw[<-Fw.out];omega),xX HE.out Ur.out (by rw[<-Fw.out];omega)]
    exact⟨b7 (Ur.out.mono j (j+1) (by omega) (by rw[<-Fw.out];omega)),Ur.out.le (j+1) (by rw[<-Fw.out];omega)⟩))
 have HLS:=hid (show zi (bnd s n) (AP s LV n) (wl s W n) (CQ s Br) (nB+1)=Ic s n bs W Br (nB+1) by
  rw[Fw.out]
  exact Js HE.out hn Ur.out bs W LV (fun i hi=>by rw[Fv.out,xY (by rw[nC _ _ _ GW.out,oG];exact hi)];rfl))
 have q0:=iG vg.out (i:=0) (v:=.slice (some ⟨gB,0,none⟩) (cn s n+1) AQ) rfl;have q1:=iG vg.out (i:=1) (v:=.slice (some ⟨gV,0,none⟩) (cn s n) cV) rfl;have q2:=iG vg.out (i:=2) (v:=.slice (some ⟨gX,0,none⟩) (cn s n) cX) rfl;have hbI:(0:Int)<=bs/\bs<=1:=by have:=GW.out;omega
 obtain⟨hb0,hb1⟩:=hbI;have hw1:IntKind.i64.wrap (2 * bs)=2 * bs:=by rw[fM];omega
 have hw2:IntKind.i64.wrap (1 - 2 * bs)=1 - 2 * bs:=by rw[fM];omega
 generalize hcn':cn s n=c at *;have HCN:=hid hcn';go_wp2_with fail;rw[<-hw7];have HW7:=hid hw7;clear hw7 hcn';go_region_with (first | (go_at_call 114;refine(Yv.out _ ?_).mono ?_;exact s_ _ _ _ rfl rfl rfl rfl;rintro e w8 ⟨vL,hs8,rfl,l_,hl8,oL⟩;obtain⟨aL,cL,rfl⟩:=iW l_;have CU:Fr [] w7 w8:=⟨oL.os,oL.tape,oL.output,oL.size,oL.block⟩;have Yh:=hid CU;have Wm:=hid l_;have HL8:=hid hl8;have r0:=CU.cell q0 aj;have r1:=CU.cell q1 aj;have r2:=CU.cell q2 aj;clear oL CU l_ hl8))
 all_goals (
  have DC:=hid (show Fr [] w7 (w8.alloc (.cells #[.slice (some ⟨gB,0,none⟩) (c+1) AQ,.slice (some ⟨gV,0,none⟩) c cV,.slice (some ⟨gX,0,none⟩) c cX,.slice aL (nB+1) cL,.int .i64 (1 - 2 * bs)] 148))from Yh.out.alloc _)
  have Fz:=hid (zl.out.trans (wS.out.trans DC.out))
  have GA:=hid (show LP (w8.alloc (.cells #[.slice (some ⟨gB,0,none⟩) (c+1) AQ,.slice (some ⟨gV,0,none⟩) c cV,.slice (some ⟨gX,0,none⟩) c cX,.slice aL (nB+1) cL,.int .i64 (1 - 2 * bs)] 148)) w.heap.size w8.heap.size (bnd s n) (Ie s n bs Br) (wl s W n) (1 - 2 * bs) (Ic s n bs W Br (nB+1)) _ _ _ _ hs8 from by
   have z1:=pF.out.size
   have z2:=wS.out.size
   have z3:=Yh.out.size
   have hz:w.heap.size<=w7.heap.size:=by omega
   refine⟨iL w8 _,by omega,Fa HBN.out.symm (by omega) (((wR.out.fr wS.out aj).fr DC.out aj)),Fa (by rw[Ie,uV,<-Wl.out]) (by omega) (by rw[Ie,<-Fv.out];exact(Yu.out.fr wS.out aj).fr DC.out aj),Fa (by rw[tO,<-Wl.out]) (by omega) ((HRX.out.fr wS.out aj).fr DC.out aj),?_,w8.heap.size,by simp,?_⟩
   ·rw[qG];exact iU (Wm.out.alloc _) hz
   ·have h:=HL8.out
    rw[HLS.out]at h
    intro j l hj
    obtain⟨vO,vX,a1,a2,a3,a4,a5,a6,a7,a8⟩:=h j l hj
    exact⟨vO,vX,a1,a2,a3,a4,iU (a5.alloc _) hz,iU (a6.alloc _) hz,a7,a8⟩)
  go_wp2
  go_ret
  exact⟨_,_,_,_,_,_,rfl,GA.out,Fz.out⟩)
open Go.Shelf
end Go.Proofs.YtnakejhohdbfdacGreatDoor
namespace Go.Proofs.YtnakejhohdbfdacGreatDoor
open Go.RowKit j9 Lay pS Go.Proofs.Tryz
open Go.Shelf
attribute [local go_sem] gy
structure VN (w:World)(B:Nat)(A:World):Prop where
 f:Fr [] w A
 n:B<=A.heap.size
 b:A.cell? ⟨w.heap.size+4,0,none⟩=some (.slice none 0 0)
theorem VN.below {w A A':World}{B:Nat}(h:VN w B A)(hB:w.heap.size+5<=B)(hb:Below B A A'):VN w B A' :=
 ⟨⟨hb.os.trans h.f.os,hb.tape.trans h.f.tape,hb.output.trans h.f.output,aK h.f.size hb.size,fun k hk hn=>(hb.block k (by omega)).trans (h.f.block k hk hn)⟩,aK h.n hb.size,(hb.cell (by show w.heap.size+4<B;omega)).trans h.b⟩
end Go.Proofs.YtnakejhohdbfdacGreatDoor
namespace Go.Proofs.YtnakejhohdbfdacGreatDoor
open Go.RowKit j9 Lay pS Go.Proofs.Tryz
end Go.Proofs.YtnakejhohdbfdacGreatDoor
namespace Go.Proofs.YtnakejhohdbfdacGreatDoor
open Go.RowKit j9 Lay Go.Proofs.Tryz
open pS
end Go.Proofs.YtnakejhohdbfdacGreatDoor

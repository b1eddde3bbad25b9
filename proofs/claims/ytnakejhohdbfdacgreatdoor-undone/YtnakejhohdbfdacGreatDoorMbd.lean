import Derived.Test.YtnakejhohdbfdacGreatDoorMas
import Derived.Test.YtnakejhohdbfdacGreatDoorMau
import Derived.Test.YtnakejhohdbfdacGreatDoorMaz
import Derived.Test.YtnakejhohdbfdacGreatDoorMbc
set_option maxHeartbeats 8000000
set_option maxRecDepth 100000
namespace Go.Proofs.YtnakejhohdbfdacGreatDoor
open Go.RowKit j9 Go.Maps Go.Proofs.Tryz
theorem Uc {s:Sq}{C:List Int}(hI:inj s.I)(hw:within s.I C)(ho:s.own=0\/s.own=1)(hb:s.kE=0\/s.kE=1)(h:Among S3 s.I C s.I.length):scan s.I yS (m5 s) C=neutral s C:=by
 have key:∀k,k<=s.I.length->kU s.I yS (m5 s) k (0,C)=kU s.I isNe (m5 s) k (0,C):=by
  intro k
  induction k with
  | zero=>intro _;rfl
  | succ k ih =>
    intro hk;have hv:=(Iy hI hw ho hb h k (by omega)).all k (by omega);rw[kU,kU,ih (by omega),oz,oz,Z8 hv]
 rw[scan,neutral,scan,key _ (au _)]
theorem nu {K:List Int}{b:Int}(hb:b=0\/b=1\/b=2):j0 K b=0\/j0 K b=1:=by
 unfold j0;split
 ·split
  ·exact .inr rfl
  ·exact .inl rfl
 ·omega
structure aeV (R K L C0:List Int)(base:Int)(ss:List (List Nat))(i:Nat):Prop where
 ne:run ss i≠[]
 sm:(run ss i).length<=K.length
 lt:∀x∈run ss i,x<K.length
 inj:inj (run ss i)
 w:within (run ss i) (jM R K L base ss i C0)
 s0:Among S0 (run ss i) (jM R K L base ss i C0) (run ss i).length
 g:∀x,0<=nth (lN R K L base ss C0 i) x/\nth (lN R K L base ss C0 i) x<=1000
theorem Ud (l c:Int):0<=lift l c/\lift l c<=2:=by
 unfold lift;split
 ·omega
 ·split <;> omega
theorem abh (R K:List Int)(base:Int)(hb:base=0\/base=1)(hK:∀i,0<=nth K i/\nth K i<=22)(i:Nat)(hi:i<(pI K (jC K (jy K base K.length).L K.length)).length) :
 aeV R K (jy K base K.length).L (jy K base K.length).C base (pI K (jC K (jy K base K.length).L K.length)) i:=by
 have he:=pM K base hb K.length (au _);have hc:=OT K base hb K.length (au _);obtain⟨ho,B5⟩:=VU K base hb;have hrun:=pL K (jy K base K.length).L K.length;have Tb:=sH K (jy K base K.length).L;have hal:=zn hrun Tb (fun a b h1 h2=>sJ hb h1 h2) _ (au _);have hsh:=zo (K:=K) (rs:=jC K (jy K base K.length).L K.length) _ (au _);have hfl:=KG hrun (k:=(jC K (jy K base K.length).L K.length).length);rw[xF Tb]at hal hsh;generalize jy K base K.length=e at *;generalize jC K e.L K.length=rs at *;generalize pI K rs=ss at *;have hget:ss[i]?=some (run ss i):=by rw[run_get hi];exact aA hi
 have hout:∀y,y∈run ss i->nth (jM R K e.L base ss i e.C) y=nth e.C y:=fun y hy=>by
  rw[o8 0 i (aN _) (fun t _ h2 h3=>by have:=ho.ap t i y (by omega) hi h3 hy;omega)];rfl
 have hlen:(jM R K e.L base ss i e.C).length=e.C.length:=tM (fun _ C=>DY R K _ C) i;refine⟨(hal i _ hget).1,by have:=hsh i _ hget;omega,fun x hx=>ho.lt i x hi hx,wJ (ho.so i hi),fun k hk=>?_,fun j hj=>?_,fun x=>?_⟩
 ·rw[hlen,he.len.2,jq hk];exact ho.lt i _ hi (bB hk)
 ·unfold cl
  rw[jq hj,hout _ (bB hj)];exact VR hc hK (B5 i _ hi (bB hj))
 ·obtain⟨g1,g2⟩:=wM (R:=R) (base:=base) (C0:=e.C) ho he.len.1 i (by omega)
  have hs:=he.small x;by_cases hx:∃t,t<i/\x∈run ss t
  ·obtain⟨t,ht,hm⟩:=hx
   rw[g1 t x ht hm];have:=Ud (nth e.L x) (nth (jM R K e.L base ss ss.length e.C) x);omega
  ·rw[g2 x (fun t ht hm=>hx ⟨t,ht,hm⟩)];omega
theorem SB.seq {w:World}{B S:Nat}{v:Value}{q:UH}{K L:List Int}{base:Int}{I:List Nat}(h:SB w B S v I (nth L (iV I)) (oq K L base I).kE (oq K L base I).qW q.U)(hU:q.U<B)(hne:I≠[])(hlt:∀x∈I,x<q.n)(hsm:I.length<=1000000):∃Q cQ,B<=Q/\SS w q S Q cQ (oq K L base I) (nth L (iV I)):=by
 obtain⟨Q,cQ,hv⟩:=iQ (bW.2 hne) h.r;subst hv;have hat:=ji h.r;have hle:=h.le;refine⟨Q,cQ,hat.1,h.cell rfl,h.cell rfl,h.cell rfl,h.cell rfl,fun k hk=>?_,fun k hk=>?_,⟨by omega,by omega⟩,hsm,uR h.r⟩
 ·rw[h.r.cellAt k (by rw[Nat.mul_one];exact hk)];exact TQ q.U I k hk
 ·rw[show iP (oq K L base I).I k=I[k]'hk from jq hk];exact hlt _ (bB _)
theorem GU {w:World}{b n:Nat}{D:DataW Unit}(h:w.ownsMap prog 3 (plainElem prog 3) b n D)(i:Nat):w.cell? ⟨b,i,none⟩=none:=by
 obtain⟨es,clock,hb,_⟩:=h;simp[World.cell?,hb]
theorem QM.abj {w:World}{q:UH}{P cU mb n:Nat}{lv:Int}{D:DataW Unit}(h:QM w q P cU mb n lv D)(x:Int):QM (w.setCell ⟨P,2,none⟩ (.int .i64 x)) q P cU mb n x D:=by
 have other:∀ {o:Nat} {y:Value},o≠2->w.cell? ⟨P,o,none⟩=some y->(w.setCell ⟨P,2,none⟩ (.int .i64 x)).cell? ⟨P,o,none⟩=some y:=fun ho hx=>by
  rw[gE _ _ _ _ (fun e=>ho (by cases e;rfl))];exact hx
 have hne:mb ∉ [P]:=fun hm=>by
  have h1:=GU h.m 2;rw[ak.1 hm,h.s.c2]at h1;cases h1
 exact⟨⟨other (by decide) h.s.c0,gu _ _ _ h.s.c2,h.s.ne⟩,other (by decide) h.c1,uU h.m (jT w P 2 _) hne,h.i⟩
theorem Yd (s:ByteArray)(b:Int)(w:World)(hs:s.size<=1000000)(hb:b=0\/b=1\/b=2)(h3:Cls.TabAt w 1 jg.jv)(h4:Cls.TabAt w 2 jg.jh)(n:Nat)(hend:Dec.Ends s n)(hn0:0<n)(hn:n<=1000000)(hK:∀i,0<=nth (Kl s n) i/\nth (Kl s n) i<=22) :
 Calls prog 111 #[.string s,.int .i64 b] w fun e w'=>∃g,e=.returned (.tuple #[.slice (some ⟨g,0,none⟩) n n,.int .i64 (j0 (Kl s n) b)])/\rowAt w' g n (levels (Rl s n) (Kl s n) (j0 (Kl s n) b))/\Fr [] w w'/\w.heap.size<=g/\soft w' g n:=by
 have H65:=hid (Qq s w hs h3 h4 n hend hn0);have HB:=hid (nu (K:=Kl s n) hb);have vJ:=hid (oG s n);have ZC:=hid (IF (Rl s n) (Kl s n) (j0 (Kl s n) b) (nu hb) hK);have HSQ:=hid (abh (Rl s n) (Kl s n) (j0 (Kl s n) b) (nu hb) hK);have HEI:=hid (pM (Kl s n) (j0 (Kl s n) b) (nu hb) (Kl s n).length (au _));have P5:=hid (fun(a c:List Nat) h1 h2=>sJ (K:=Kl s n) (base:=j0 (Kl s n) b) (nu hb) (a:=a) (b:=c) h1 h2);have SH:=hid (fun(U P cU mb:Nat) (D:DataW Unit) (Y:World) hu hq=>xJ ⟨U,n,Rl s n,Kl s n⟩ (Kl s n) (List.replicate (Kl s n).length 0) P cU mb n 0 D b Y hu hq (oG s n) hn hb);obtain⟨lv,hlv⟩:∃lv,lv=j0 (Kl s n) b:=⟨_,rfl⟩;dsimp only at SH;rw[<-hlv]at HB ZC HSQ HEI P5 SH;rw[<-hlv];rw[vJ.out]at ZC HSQ HEI P5;generalize Rl s n=R at *;generalize Kl s n=K at *;generalize levels R K lv=Z at *;clear hlv hb h3 h4 hend hs hK;go_enter func111,ntmps111;go_wp2_with fail;refine H65.out.mono ?_;rintro e w1 ⟨P,U,cU,mb,D,rfl,hu1,hq1,hmU,hf1,hfz,hPw,A6⟩;have Qr:=hid (SH.out U P cU mb D w1 hu1 hq1);have pO:=hid hu1;have P_:=hid hq1;have jc:=hid hf1;have c2:=hq1.s.c2;have hPU:=hq1.s.ne;have hml:=hq1.m.lt;have za:=fC _ _ c2;have Co:U<w1.heap.size:=fC _ _ (hu1.r 0 hn0);dsimp only at hPU za;clear hu1 hq1 hf1 H65 SH;go_wp2_with fail;refine Qr.out.mono ?_;rintro e w1 ⟨rfl,rfl⟩;have Ye:=hid (P_.out.abj lv);have zk:=hid (pO.out.fr (jT w1 P 2 (.int .i64 lv)) (fun hm=>hPU (ak.1 hm).symm));have i_:=hid (show Fr [] w (w1.setCell ⟨P,2,none⟩ (.int .i64 lv))from jc.out.behind (jT w1 P 2 _) (fun k hk=>by rw[ak.1 hk];exact hPw));have H67:=hid (Mr ⟨U,n,R,K⟩ P cU mb n lv D _ zk.out Ye.out hmU vJ.out hn hn0 HB.out);clear Qr;go_wp2_with fail;refine H67.out.mono ?_;rintro e w3 ⟨rfl,hu3,hf3⟩;have T_:=hid hu3;have jQ:=hid hf3;have HQ3:=hid (Ye.out.fr hf3 (fun hm=>hPU (ak.1 hm)) (fun hm=>hmU (ak.1 hm)));have Yf:=hid (PZ ⟨U,n,R,K⟩ (jy K lv n).C (jy K lv n).L P cU mb n lv D w3 hu3 HQ3.out vJ.out hn hn0 (fun i=>(HEI.out.small i).1) (by dsimp only;rw[vJ.out];exact P5.out));dsimp only at Yf;rw[vJ.out]at Yf;generalize hE:jy K lv n=E at *;clear hu3 hf3 H67 hE;have aeX:=hid (show(pI K (jC K E.L n)).length<=n by have h5:=sH K E.L;have h6:=wP K E.L K.length;rw[<-xF (by rw[vJ.out]at h5;exact h5)];have h7:=zq K (jC K E.L n) (jC K E.L n).length;rw[vJ.out]at h6;omega);generalize pI K (jC K E.L n)=ss at *;go_wp2_with fail;refine Yf.out.mono ?_;rintro e w4 ⟨v,gs,B,rfl,hal,hgs,hB,jG⟩;have hlen:=PY hgs;obtain⟨m,hm⟩:∃m,m=gs.length:=⟨_,rfl⟩;obtain⟨a4,c4,hv4⟩:=iW hal.own;rw[<-hm]at hv4;subst hv4;have HA:=hid hal;have HG:=hid hgs;have jI:=hid jG;have HM:=hid hm;have TO:=hid (hm.trans hlen);have hUB:U<B:=by have h5:=jQ.out.size;have h6:=i_.out.size;simp at h5;omega
 have hmb:m<=1000000:=by
  have h5:=aeX.out;rw[<-hlen,<-hm]at h5;omega
 clear hal hgs jG hm hlen Yf;go_wp2;go_loopw [22] (fun a wr=>∃(k:Nat),a=.int .i64 k/\k<=m/\Hid (US wr ⟨U,n,R,K⟩ (jM R K E.L lv ss k E.C) (lN R K E.L lv ss E.C k))/\Hid (Fr [U] w4 wr)) (fun a _=>m - (Go.RowKit.intOf a).toNat)
 case atStart=>exact⟨0,rfl,aN _,hid (T_.out.fr jI.out aj),hid (Fr.refl _ _)⟩
 case round =>
  obtain⟨k,rfl,hk,Wh,HF⟩:=hrel;by_cases hlt:k<m
  ·have hown:=HA.out.own
   rw[<-HM.out]at hown;obtain⟨g4,c5,hsh⟩:=iQ (by omega) hown;cases hsh;have hkg:k<gs.length:=by rw[<-HM.out];exact hlt
   obtain⟨d,hd⟩:∃d,gs[k]?=some d:=⟨_,aA hkg⟩;obtain⟨S,v1,I,Bb,s7,Ml⟩:=d;have hgm:=HG.out.2 _ (eW hd);dsimp only at hgm;obtain⟨rfl,rfl,rfl⟩:=hgm;have hI:run ss k=I:=by have h5:=PX HG.out hd;simp[run,h5]
   have hsb:=HA.out.sb k _ hd;dsimp only at hsb;have hg4:=(ji hown).1;have p1:=HF.out.cell (HA.out.cell hd HM.out) (fun hx=>by have:=ak.1 hx;omega);dsimp only at p1;have hSl:=hsb.le;have abo:=hsb.fr HF.out (fun hx=>by have:=ak.1 hx;omega) (fun g hg hx=>by have h5:=(hsb.r.lt g hg).1;have:=ak.1 hx;omega);have Wj:=hid (HSQ.out k (by rw[<-TO.out];exact hlt));have iZ:=hid (show jM R K E.L lv ss (k+1) E.C=rules R K (oq K E.L lv (run ss k)) (jM R K E.L lv ss k E.C)from rfl);have AN:=hid (show lN R K E.L lv ss E.C (k+1)=l6 (run ss k) (nth E.L (iV (run ss k))) (jM R K E.L lv ss (k+1) E.C) (run ss k).length (lN R K E.L lv ss E.C k)from rfl);rw[hI]at iZ AN;have sne:=Wj.out.ne;have ssm:=Wj.out.sm;have slt:=Wj.out.lt;have Ue:=Wj.out.inj;have sw:=Wj.out.w;have ss0:=Wj.out.s0;have sg:=Wj.out.g;rw[hI]at sne ssm slt Ue sw ss0;rw[vJ.out]at ssm slt;obtain⟨Q,cQ,hBQ,hss⟩:=SB.seq (q:=⟨U,n,R,K⟩) abo hUB sne slt (by omega);obtain⟨sq,LG⟩:∃sq,sq=oq K E.L lv I:=⟨_,rfl⟩;have Uf:sq.I=I:=by rw[LG];rfl
   have Qs:sq.kE=0\/sq.kE=1:=by rw[LG];exact B4 _
   have Yg:sq.own=way (nth E.L (iV I)):=by rw[LG];rfl
   have Wk:sq.own=0\/sq.own=1:=by rw[Yg];exact B4 _
   have hl1:=(HEI.out.small (iV I)).1;rw[<-LG]at hss iZ;rw[<-Uf]at sne Ue sw ss0 AN;rw[Uf]at AN;have h0:0<sq.I.length:=bW.2 sne;generalize nth E.L (iV I)=Bb at *;generalize jM R K E.L lv ss k E.C=C1 at *;generalize lN R K E.L lv ss E.C k=L1 at *;obtain⟨C2,hC2⟩:∃C2,C2=jM R K E.L lv ss (k+1) E.C:=⟨_,rfl⟩;rw[<-hC2]at iZ AN;have HCE:=hid hC2;have Pn:=hid (fun X (hf:Fr [U] wr X)=>hss.fr hf (fun hx=>hss.ne.1 (ak.1 hx)) (fun hx=>hss.ne.2 (ak.1 hx)));have nK:=Oy (K:=K) Qs sw ss0;have H69:=hid (PF ⟨U,n,R,K⟩ C1 L1 S Q cQ sq Bb wr Wh.out hss Qs ss0 (fun C X hu hs=>Qh ⟨U,n,R,K⟩ C L1 S Q cQ sq Bb X hu hs h0));have wX:(k:Int)<(m:Int):=by omega
   have ZI:=hid (show C2=neutral sq (brackets R K sq (weak K sq C1))from iZ.out);have HI:=hid Uf;have nZ:=hid (fun h=>Uc (s:=sq) (C:=brackets R K sq (weak K sq C1)) Ue h Wk Qs (W9 Qs Wk _ nK.1 _));have Ug:=hid (show(brackets R K sq (weak K sq C1)).length=C1.length by rw[brackets,EH];exact nK.2);have Wi:=hid (show within sq.I C1 from sw);clear hsb abo hown hd hI hss sw ss0 nK iZ Wj sne LG Uf slt hC2;go_wp2_with fail;refine H69.out.mono ?_;rintro e w5 ⟨rfl,V9,kK⟩;have H70:=hid (T7 ⟨U,n,R,K⟩ _ L1 S Q cQ sq Bb w5 V9 (Pn.out w5 kK) h0 hl1 Yg Qs);have pF:=hid kK;clear V9 kK H69;go_wp2_with fail;refine H70.out.mono ?_;rintro e w6 ⟨rfl,hu6,jJ⟩;have zl:=hid (pF.out.trans jJ);have H71:=hid (Qi ⟨U,n,R,K⟩ _ L1 S Q cQ sq Bb w6 hu6 (Pn.out w6 zl.out) h0 hl1 Yg);dsimp only at H71;rw[nZ.out (Wi.out.of Ug.out),<-ZI.out]at H71;clear hu6 jJ H70;go_wp2_with fail;refine H71.out.mono ?_;rintro e w7 ⟨rfl,hu7,I_⟩;have TK:=hid (zl.out.trans I_);have H72:=hid (PE ⟨U,n,R,K⟩ C2 L1 S Q cQ sq Bb w7 hu7 (Pn.out w7 TK.out) hl1 Ue sg);clear hu7 I_ H71;go_wp2_with fail;refine H72.out.mono ?_;rintro e w8 ⟨rfl,hu8,oL⟩;have HU8:=hid (show US w8 ⟨U,n,R,K⟩ C2 (lN R K E.L lv ss E.C (k+1)) by rw[AN.out,<-HI.out];exact hu8);have Yh:=hid (HF.out.trans (TK.out.trans oL));clear hu8 oL H72;go_wp2;go_roundw
   case rel=>exact⟨k+1,by go_num,by omega,hid (by rw[<-HCE.out];exact HU8.out),Yh⟩
   case measure=>simp[Go.RowKit.intOf];omega
  ·have hke:k=m:=by omega
   have wX:¬(k:Int)<(m:Int):=by omega
   have HQW:=hid (((HQ3.out.fr jI.out aj aj).s).fr HF.out (fun hx=>hPU (ak.1 hx)));have Yi:=hid (Bv ⟨U,n,R,K⟩ _ _ P cU lv wr Wh.out HQW.out hn);dsimp only at Yi;have HZ:=hid (show(j5 K lv n (lN R K E.L lv ss E.C k)).2=Z by rw[ZC.out,hke,TO.out]);rw[HZ.out]at Yi;clear hke;go_wp2_with fail;refine Yi.out.mono ?_;rintro e w5 ⟨rfl,V9,kK⟩;have HQ5:=hid (HQW.out.fr kK (fun hx=>hPU (ak.1 hx)));have H74:=hid (fun X (hf:Fr [] w5 X)=>Bz ⟨U,n,R,K⟩ _ Z P cU lv X (V9.fr hf aj) (HQ5.out.fr hf aj) hn hn0);have pF:=hid (show Fr [] w w5 from(((i_.out.behind jQ.out (fun k hk=>by rw[ak.1 hk];exact A6)).trans jI.out).behind HF.out (fun k hk=>by rw[ak.1 hk];exact A6)).behind kK (fun k hk=>by rw[ak.1 hk];exact A6));have c2':=HQ5.out.c2;clear V9 kK Yi;go_wp2;go_region_with (first | (go_at_call 144;refine(H74.out _ ?_).mono ?_;exact s_ _ _ _ rfl rfl rfl rfl;rintro e w6 ⟨g,rfl,hg,hrow,jJ⟩;have Jl:Fr [] w5 w6:=⟨jJ.os,jJ.tape,jJ.output,jJ.size,jJ.block⟩;have zl:=hid (pF.out.trans Jl);have ql:=hid hrow;have lu:=hid hg.1;have HS6:=hid hg.2;have c3:=Jl.cell c2' aj;clear jJ Jl hrow hg))
   all_goals (
    go_wp2
    go_ret2
    exact⟨g,rfl,ql.out,zl.out,aK pF.out.size lu.out,HS6.out⟩)
structure QN (w:World)(P:Nat)(lv:Int):Prop where
 o:∃mb,w.heap[P]?=some (.cells #[.slice none 0 0,.map (some mb),.int .i64 lv] 260 (0,0))
theorem QN.fr {T:List Nat}{w w':World}{P:Nat}{lv:Int}(h:QN w P lv)(hf:Fr T w w')(hP:P ∉ T):QN w' P lv:=by
 obtain⟨mb,h⟩:=h;exact⟨mb,(hf.block P (aC.1 h).1 hP).trans h⟩
theorem QN.c0 {w:World}{P:Nat}{lv:Int}(h:QN w P lv):w.cell? ⟨P,0,none⟩=some (.slice none 0 0):=by
 obtain⟨mb,h⟩:=h;rw[fI _ _ 0 _ 260 (0,0) h];rfl
theorem QN.c2 {w:World}{P:Nat}{lv:Int}(h:QN w P lv):w.cell? ⟨P,2,none⟩=some (.int .i64 lv):=by
 obtain⟨mb,h⟩:=h;rw[fI _ _ 2 _ 260 (0,0) h];rfl
theorem QN.f2 {w:World}{P:Nat}{lv:Int}(h:QN w P lv):w.frozen? ⟨P,2,none⟩=false:=by
 obtain⟨mb,h⟩:=h;exact fT _ _ 2 _ 260 h
theorem QN.set {w:World}{P:Nat}{lv:Int}(h:QN w P lv)(x:Int):QN (w.setCell ⟨P,2,none⟩ (.int .i64 x)) P x:=by
 obtain⟨mb,h⟩:=h;exact⟨mb,by rw[fU _ _ 2 _ 260 _ h];rfl⟩
end Go.Proofs.YtnakejhohdbfdacGreatDoor
namespace Go.Proofs.YtnakejhohdbfdacGreatDoor
open Go.RowKit j9 Lay pS Go.Proofs.Tryz
def AO (s:ByteArray)(n:Nat)(bs:Int)(Br:List Int)(i:Nat):Int:=Tj (Kl s n) (levels (Rl s n) (Kl s n) bs) bs (TF (jd s n) (bnd s n) Br) i
def kV (s:ByteArray)(n:Nat)(Br:List Int)(k:Nat):Nat:=ei (bnd s n) (cn s n) Br k
def Ic (s:ByteArray)(n:Nat)(bs:Int)(W Br:List Int)(k:Nat):List Ln:=(List.range k).map fun j=>EZ (Dec.pos s) (iP (jd s n)) (AO s n bs Br) W (kV s n Br j) (kV s n Br (j+1))
theorem qG (s:ByteArray)(n:Nat)(bs:Int)(W Br:List Int)(k:Nat):(Ic s n bs W Br k).length=k:=by simp[Ic]
def AP (s:ByteArray)(Lv:List Int)(i:Nat):List Int:=(jF s i).map (nth Lv)
theorem Uh {s:ByteArray}{Lv:List Int}{i:Nat}(h:A0 s i=true):AP s Lv (i+1)=AP s Lv i++[nth Lv i]:=by rw[AP,m7 h,dz];rfl
theorem Yj {s:ByteArray}{Lv:List Int}{i:Nat}(h:A0 s i=false):AP s Lv (i+1)=AP s Lv i:=by rw[AP,oS h];rfl
theorem uV (s:ByteArray)(Lv:List Int)(i:Nat):(AP s Lv i).length=(jF s i).length:=by simp[AP]
theorem Jm {s:ByteArray}{Lv:List Int}{i k:Nat}(h:k<(jF s i).length):nth (AP s Lv i) k=nth Lv (iP (jF s i) k):=by simp[nth,AP,iP,h]
theorem Yk {s:ByteArray}{W:List Int}{i:Nat}(h:A0 s i=true):wl s W (i+1)=(wl s W i++[0]).set (wl s W i).length (0+nth W i):=by
 rw[wl,aE h,List.set_append_right _ _ (au _),dm,List.set_cons_zero,Int.zero_add]
theorem abr {s:ByteArray}{W:List Int}{i:Nat}(h:A0 s i=false):wl s W (i+1)=(wl s W i).set ((wl s W i).length - 1) (nth (wl s W i) ((wl s W i).length - 1)+nth W i):=by
 rw[wl,ay (by rw[h];exact aG)]
theorem An {s:ByteArray}{n i:Nat}(hi:i<=n)(hn:0<n):(jF s i).length<(jd s n).length:=by
 obtain⟨d,rfl⟩:∃d,n=i+d:=⟨n - i,by omega⟩;have h:=(o9 s i d).length_le;rw[jd,ay (by omega),aD];simp only[bg,List.length_nil];omega
theorem Ui {s:ByteArray}{i:Nat}(h:A0 s i=false):0<i:=by
 rcases bO i with h0 | h0
 ·rw[h0]at h;exact absurd h (by simp[A0])
 ·exact h0
theorem Eh (s:ByteArray){i:Nat}(h:0<i):0<(jF s i).length:=(B_ s i).2 h
theorem Qt {s:ByteArray}{n i:Nat}(h:Dec.Ends s n)(hn:0<n)(hi:i<n):(((Dec.pos s i:Nat):Int) == nth (bnd s n) (jF s i).length)=A0 s i:=by
 have hl:=An (s:=s) (b7 hi) hn;rw[nk h hl];cases hb:A0 s i
 ·have h2:=(FZ (s:=s) hi).2 hb
  have h3:iP (jd s n) (jF s i).length<=n:=by
   rcases aH (show(jF s i).length<=cn s n by unfold cn;omega)with h4 | h4
   ·have:=qN (lI s n) h4 (by unfold cn;omega);rw[lE]at this;omega
   ·rw[h4,lE];exact au _
  have h5:=Dec.kR s _ _ h2;simp;omega
 ·rw[(FZ (s:=s) hi).1 hb];simp
theorem CN (l:List Int)(k:Nat)(x:Int):(iS l).set k (.int .i64 x)=iS (l.set k x):=by simp[iS,List.map_set]
theorem GV (s:ByteArray)(W:List Int)(h:∀i,0<=nth W i/\nth W i<=1073741824)(i j:Nat)(hj:j<(jF s i).length):0<=nth (wl s W i) j/\nth (wl s W i) j<=i * 1073741824:=by
 rw[Kk s W i j hj];have hm:=qA s i _ (qC (l:=jF s i) (k:=j) hj);split
 ·rename_i h1
  have hm2:=qA s i _ (qC (l:=jF s i) (k:=j+1) h1);have h2:=uO W 1073741824 h (iP (jF s i) j) (iP (jF s i) (j+1) - iP (jF s i) j);have h3:((iP (jF s i) (j+1) - iP (jF s i) j:Nat):Int) * 1073741824<=(i:Int) * 1073741824:=dW (by omega) (by omega);rw[wid];exact⟨h2.1,by omega⟩
 ·have h2:=uO W 1073741824 h (iP (jF s i) j) (i - iP (jF s i) j)
  have h3:((i - iP (jF s i) j:Nat):Int) * 1073741824<=(i:Int) * 1073741824:=dW (by omega) (by omega);rw[wid];exact⟨h2.1,by omega⟩
theorem ME (s:ByteArray)(n:Nat)(b:Int)(vB:Value)(gW oW cW gT cT gL cL:Nat)(W Lv R:List Int)(w:World)(hs:s.size<=400)(hend:Dec.Ends s n)(hn:0<n)(ht:Cls.TabAt w 0 jg.jr)(hW:O2 w gW oW n W)(hWb:∀i,0<=nth W i/\nth W i<=1073741824)
 (hT:∀i,i<n->w.cell? ⟨gT,i * 3,none⟩=some (.int .i32 (nth R i))/\w.cell? ⟨gT,i * 3+1,none⟩=some (.int .i64 (Dec.pos s i:Nat))/\w.cell? ⟨gT,i * 3+2,none⟩=some (.int .i64 (Dec.pos s (i+1):Nat))) (hL:rowAt w gL n Lv) :
 Calls prog 113 #[.agg #[.string s,.int .i64 b,.slice (some ⟨gW,oW,none⟩) n cW,vB],.slice (some ⟨gT,0,none⟩) n cT,.slice (some ⟨gL,0,none⟩) n cL] w fun e w'=>∃vs:Array Value,e=.returned (.agg vs)/\Hid (∃gB cB gV cV gX cX,vs=#[.slice (some ⟨gB,0,none⟩) (cn s n+1) cB,.slice (some ⟨gV,0,none⟩) (cn s n) cV,.slice (some ⟨gX,0,none⟩) (cn s n) cX]/\rowAt w' gB (cn s n+1) (bnd s n)/\rowAt w' gV (cn s n) (AP s Lv n)/\rowAt w' gX (cn s n) (wl s W n)/\w.heap.size<=gB/\w.heap.size<=gV/\w.heap.size<=gX)/\Fr [] w w':=by
 obtain⟨i3,hi3,Cp,Cq,hz32⟩:=fY info3;obtain⟨i2,hi2,XD,XE,XF⟩:=fY VX;have Jb:n<=400:=by have:=Dec.lV s n;have:=hend.1;omega
 obtain⟨nb,hnb⟩:∃nb,nb=(bnd s n).length:=⟨_,rfl⟩;have Fw:=hid hnb;have XZ:=hid (show nb=cn s n+1 by rw[hnb,lJ hend];unfold cn;have:=(jA s n).2.1;omega);have ai0:0<nb:=by have:=XZ.out;omega
 have aeu:nb<=401:=by rw[hnb,lJ hend];have:=(jA s n).1;omega
 clear hnb;obtain⟨w2,hw2⟩:∃w2,w2=(w.alloc (.cells #[.string s,.int .i64 b,.slice (some ⟨gW,oW,none⟩) n cW,vB] 64)).alloc (.cells #[.slice none 0 0,.slice none 0 0,.slice none 0 0] 146):=⟨_,rfl⟩;have i_:=hid (show Fr [] w w2 by rw[hw2];exact((Fr.refl [] w).alloc _).alloc _);have lT:=hid (show w2.heap[w.heap.size]?=some (.cells #[.string s,.int .i64 b,.slice (some ⟨gW,oW,none⟩) n cW,vB] 64 (0,0)) by rw[hw2];exact iJ (iL w _) ((Fr.refl [] _).alloc _) aj);have aeZ:w2.heap.size=w.heap.size+2:=by rw[hw2];simp
 have jO:=hid (show w2.heap[w.heap.size+1]?=some (.cells #[.slice none 0 0,.slice none 0 0,.slice none 0 0] 146 (0,0)) by
  have h:=iL (w.alloc (.cells #[.string s,.int .i64 b,.slice (some ⟨gW,oW,none⟩) n cW,vB] 64)) (.cells #[.slice none 0 0,.slice none 0 0,.slice none 0 0] 146)
  rw[fD]at h;rw[hw2];exact h)
 have abt:=hid (Cls.qV s w2 (by omega) (lB ht i_.out));have HW:=hid hW;have NQ:=hid hWb;have HT:=hid hT;have HL:=hid hL;have HE:=hid hend;have k0:=iG lT.out (i:=0) (v:=.string s) rfl;clear hW hWb hT hL hend ht;go_enter func113,ntmps113;go_wp2_with fail;rw[<-hw2];refine abt.out.mono ?_;rintro e w3 ⟨n',v,hn',rfl,own,hb3⟩;obtain rfl:=Dec.kW HE.out hn';have jQ:=hid (i_.out.trans (Fr.of_below (S:=[]) hb3));have Uj:=hid (iJ lT.out (Fr.of_below (S:=[]) hb3) aj);have CO:=hid (iJ jO.out (Fr.of_below (S:=[]) hb3) aj);rw[<-Fw.out]at own;obtain⟨gB,cB,hv⟩:=iQ (by omega) own;subst hv;have wR:=hid (show rowAt w3 gB nb (bnd s n)from fun j hj=>by rw[own.cellAt j (by omega),k_ (by rw[<-Fw.out];exact hj)]);have hgB:=(ji own).2;have abu:=(ji own).1;clear own hb3 hn' abt k0;have ae0:w.heap.size+2<=w3.heap.size:=by have:=jQ.out.size;have:=iO CO.out;omega
 obtain⟨cb,hcb⟩:∃cb,cb=w3.heap.size:=⟨_,rfl⟩;have HCB:=hid hcb;clear hcb;go_wp2_with fail;go_loopw [16] (fun ii wr=>∃(i k:Nat) (vV vX:Value),ii=.int .i64 i/\i<=n/\Hid (k=(jF s i).length)/\Hid (wr.heap[w3.heap.size]?=some (.cells #[.slice (some ⟨gB,0,none⟩) nb cB,vV,vX] 146 (0,0)))/\Hid (wr.ownsRow (w3.heap.size+1) 3 1 vV k (iS (AP s Lv i)))/\Hid (wr.ownsRow (w3.heap.size+1) 2 1 vX k (iS (wl s W i)))/\Hid (Fr [] w3 wr)) (fun ii _=>n - (intOf ii).toNat)
 case atStart=>exact⟨0,0,.slice none 0 0,.slice none 0 0,rfl,aN _,hid rfl,hid (iL w3 _),hid ⟨rfl,.inl ⟨rfl,rfl⟩⟩,hid ⟨rfl,.inl ⟨rfl,rfl⟩⟩,hid ((Fr.refl [] w3).alloc _)⟩
 case round =>
  obtain⟨i,k,vV,vX,rfl,hin,HK,NT,HV,HX,HF⟩:=hrel;have qQ:=hid (jQ.out.trans HF.out);obtain⟨aV,cV,hvV⟩:=iW HV.out;subst hvV;obtain⟨aX,cX,Jn⟩:=iW HX.out;subst Jn;by_cases hil:i<n
  ·have y_:(i:Int)<(n:Int):=by omega
   obtain⟨q0,q1,q2⟩:=HT.out i hil;have q0':=qQ.out.cell q0 aj;have q1':=qQ.out.cell q1 aj;have q2':=qQ.out.cell q2 aj;have hkb:k<nb:=by rw[HK.out,Fw.out,lJ HE.out];exact An hin hn
   have wX:(k:Int)<(nb:Int):=by omega
   have b0:=HF.out.cell (wR.out k hkb) aj;have Wl:=hid (by have h:=Qt (s:=s) HE.out hn hil;rw[<-HK.out]at h;exact h);have c0:=iG NT.out (i:=0) (v:=.slice (some ⟨gB,0,none⟩) nb cB) rfl;have c1:=iG NT.out (i:=1) (v:=.slice aV k cV) rfl;have c2:=iG NT.out (i:=2) (v:=.slice aX k cX) rfl;have l0:=HL.out.fr qQ.out aj i hil;clear q0 q1 q2;generalize nth R i=r0 at *;generalize Dec.pos s i=p0 at *;generalize Dec.pos s (i+1)=p1 at *;generalize nth (bnd s n) k=bk at *;have Yl:=fC _ _ b0;have Ym:=fC _ _ c0;have Uk:=fC _ _ l0;dsimp only at Yl Ym Uk;by_cases hbg:A0 s i=true
   ·rw[hbg]at Wl
    have hpe:=Wl.out;go_wp2_with fail;go_quiet (fail);go_wp2_with fail;obtain⟨w5,nK⟩:∃w5,w5=(wr.alloc (.cells #[.int .i32 r0,.int .i64 ((p0:Nat):Int),.int .i64 ((p1:Nat):Int)] 48)).drewN nq:=⟨_,rfl⟩;have kD:=hid (show Fr [] wr w5 by rw[nK];exact((Fr.refl [] wr).alloc _).trans (jf _ _));rw[<-nK];clear nK b0 c0 q0' q1' q2' Yl Ym Uk;have Ul:=hid (iJ NT.out kD.out aj);have l5:=kD.out.cell l0 aj;have c15:=iG Ul.out (i:=1) (v:=.slice aV k cV) rfl;have f15:=iH Ul.out 1;have HV5:=hid (iM HV.out kD.out);have HX5:=hid (iM HX.out kD.out);have ae1:=iO Ul.out;have abw:=fC _ _ l5;have ae2:=fC _ _ (HL.out i hil);dsimp only at abw ae2;have HVG:=hid (fun g (hg:(Value.slice aV k cV).ownBlock=some g)=>(HV.out.lt g hg).1);clear l0 c1 c2;have HLY:=hid (Uh (Lv:=Lv) hbg);generalize nth Lv i=lv at *
    have V7:=hid (fun(w1' w':World) (hf:Fr [] w5 w1') (hg:w1'.grownBy w' (Value.slice aV k cV).ownBlock)=>show w'.heap[w3.heap.size]?=some (.cells #[.slice (some ⟨gB,0,none⟩) nb cB,.slice aV k cV,.slice aX k cX] 146 (0,0))/\w'.cell? ⟨gL,i,none⟩=some (.int .i64 lv)from
     ⟨(hg.block w3.heap.size (by have:=hf.size;omega) (fun e=>by have:=HVG.out _ e.symm;omega)).trans (iJ Ul.out hf aj),(gM (a:=⟨gL,i,none⟩) (hg.block gL (by have:=hf.size;omega) (fun e=>by have:=HVG.out _ e.symm;omega))).trans (hf.cell l5 aj)⟩)
    go_region_law (refine Cf rfl (.tmp 32) (.tmp 37) 32 rfl (w3.heap.size+1) 3 i3 _ 1 8 underlying32 hi3 Cp Cq hz32 rfl (by decide) (.slice aV k cV) k (iS (AP s Lv i)) ?q1 ?q2 ⟨w5.heap.size,0,none⟩ 1 1 [.int .i64 lv] ?q3 rfl ?q4 (one_cell _) (by unfold maxLen;omega) (by omega) ?q5 ?_;(case q1=>simp[Act.eval]);(case q2=>exact iM HV5.out (((Fr.refl [] w5).drew).alloc _));(case q3=>simp[Act.eval]);(case q4=>exact kM _ _ _ _ (by simp));(case q5=>simp;omega);intro v' w' hown hgrow;obtain⟨g',c',hv'⟩:=iQ (by omega) hown;subst hv';have HV6:=hid hown;have lu:=hid hgrow;have Jo:=hid (V7.out _ _ (((Fr.refl [] w5).drew).alloc _) hgrow).1;have c16:=iG Jo.out (i:=1) (v:=.slice aV k cV) rfl;have f16:=iH Jo.out 1;clear hown hgrow)
    all_goals (
     obtain⟨w6,KJ⟩:∃w6,w6=w'.setCell ⟨w3.heap.size,1,none⟩ (.slice (some ⟨g',0,none⟩) (k+1) c'):=⟨_,rfl⟩
     rw[<-KJ]
     have vg:=hid (show w6.heap[w3.heap.size]?=some (.cells #[.slice (some ⟨gB,0,none⟩) nb cB,.slice (some ⟨g',0,none⟩) (k+1) c',.slice aX k cX] 146 (0,0)) by rw[KJ];exact iI Jo.out 1 _)
     have HKS:=hid (show ∀(e:TypeId) (_:e≠146) g,some w3.heap.size=some g->∃cs t f,w'.heap[g]?=some (.cells cs t f)/\t≠e from fun e he g hv=>by cases hv;exact⟨_,_,_,Jo.out,fun e=>he e.symm⟩)
     have HV7:=hid (show w6.ownsRow (w3.heap.size+1) 3 1 (.slice (some ⟨g',0,none⟩) (k+1) c') (k+1) (iS (AP s Lv (i+1))) by
      rw[HLY.out,<-tP,KJ];exact mE HV6.out (rI (b:=w3.heap.size)) (HKS.out _ (by decide)))
     have HX7:=hid (show w6.ownsRow (w3.heap.size+1) 2 1 (.slice aX k cX) k (iS (wl s W i)) by
      rw[KJ]
      refine mE (mE (iM HX5.out (((Fr.refl [] w5).drew).alloc _)) lu.out (fun g hg=>?_)) (rI (b:=w3.heap.size)) (HKS.out _ (by decide))
      obtain⟨cs,t',f',h5,h6⟩:=pW (iM HV5.out (((Fr.refl [] w5).drew).alloc (.cells #[.int .i64 lv] 3))) hg
      exact⟨cs,t',f',h5,by rw[h6];decide⟩)
     have TK:=hid (show Fr [] w3 w6 by
      rw[KJ]
      exact(((HF.out.trans kD.out).trans (((Fr.refl [] w5).drew).alloc (.cells #[.int .i64 lv] 3))).grown lu.out (fun g hg=>by have:=HVG.out g hg;omega)).iK (au _))
     clear KJ c15 f15 c16 f16 l5 ae1 abw
     have c27:=iG vg.out (i:=2) (v:=.slice aX k cX) rfl
     have ai6:=iO vg.out
     have HXG:=hid (fun g (hg:(Value.slice aX k cX).ownBlock=some g)=>(HX.out.lt g hg).1)
     have ae4:=hid (fun(o:Obj)=>iJ vg.out ((Fr.refl [] w6).alloc o) aj)
     have ai7:w3.heap.size≠w6.heap.size:=by omega
     go_wp2_with (at_builtin;refine fV _ rfl _ _ 67 rfl (w3.heap.size+1) 2 i2 _ 1 8 underlying67 hi2 XD XE XF rfl (by decide) _ k (iS (wl s W i)) rfl ?own _ 1 1 [.int .i64 0] rfl rfl (kM _ _ _ _ (by simp)) (one_cell _) (by unfold maxLen;omega) (by omega) ?Gk ?_)
     case own=>exact HX7.out.alloc _
     case Gk=>simp;omega
     intro v8 w8 Qu Jp abx
     obtain⟨g8,c8,hv8⟩:=iQ (by omega) Qu
     subst hv8
     have HXo:=hid Qu
     have HXg:=hid Jp
     have Wm:=hid (show w8.heap[w3.heap.size]?=some (.cells #[.slice (some ⟨gB,0,none⟩) nb cB,.slice (some ⟨g',0,none⟩) (k+1) c',.slice aX k cX] 146 (0,0))from(Jp.block w3.heap.size (by simp;omega) (fun e=>by have:=HXG.out _ e.symm;omega)).trans (ae4.out _))
     have c28:=iG Wm.out (i:=2) (v:=.slice aX k cX) rfl
     have f28:=iH Wm.out 2
     clear Qu Jp abx c27
     obtain⟨w9,SI⟩:∃w9,w9=w8.setCell ⟨w3.heap.size,2,none⟩ (.slice (some ⟨g8,0,none⟩) (k+1) c8):=⟨_,rfl⟩
     have Um:=hid (show w9.heap[w3.heap.size]?=some (.cells #[.slice (some ⟨gB,0,none⟩) nb cB,.slice (some ⟨g',0,none⟩) (k+1) c',.slice (some ⟨g8,0,none⟩) (k+1) c8] 146 (0,0)) by rw[SI];exact iI Wm.out 2 _)
     have HKT:=hid (show ∀(e:TypeId) (_:e≠146) g,some w3.heap.size=some g->∃cs t f,w8.heap[g]?=some (.cells cs t f)/\t≠e from fun e he g hv=>by cases hv;exact⟨_,_,_,Wm.out,fun e=>he e.symm⟩)
     have Qv:=hid (show w9.ownsRow (w3.heap.size+1) 2 1 (.slice (some ⟨g8,0,none⟩) (k+1) c8) (k+1) (iS (wl s W i++[0])) by
      rw[<-tP,SI];exact mE HXo.out (rI (b:=w3.heap.size)) (HKT.out _ (by decide)))
     have HV9:=hid (show w9.ownsRow (w3.heap.size+1) 3 1 (.slice (some ⟨g',0,none⟩) (k+1) c') (k+1) (iS (AP s Lv (i+1))) by
      rw[SI]
      refine mE (mE (HV7.out.alloc _) HXg.out (fun g hg=>?_)) (rI (b:=w3.heap.size)) (HKT.out _ (by decide))
      obtain⟨cs,t',f',h5,h6⟩:=pW (HX7.out.alloc (.cells #[.int .i64 0] 2)) hg
      exact⟨cs,t',f',h5,by rw[h6];decide⟩)
     have DC:=hid (show Fr [] w3 w9 by
      rw[SI]
      exact((TK.out.alloc (.cells #[.int .i64 0] 2)).grown HXg.out (fun g hg=>by have:=HXG.out g hg;omega)).iK (au _))
     have HW9:=hid SI
     clear SI
     go_wp2_with fail
     rw[<-HW9.out]
     clear c28 f28
     have Yn:=hid (jQ.out.trans DC.out)
     have c29:=iG Um.out (i:=2) (v:=.slice (some ⟨g8,0,none⟩) (k+1) c8) rfl
     have hkl:k=(wl s W i).length:=by rw[tO];exact HK.out
     have vJ:=hid hkl
     clear hkl
     have x9:=Qv.out.cellAt k (by omega)
     rw[k_ (by rw[aD,<-vJ.out];simp),show nth (wl s W i++[0]) k=0 by rw[vJ.out];simp[nth]]at x9
     have xf9:=Qv.out.frozenAt k
     have m9:=iG (iJ Uj.out DC.out aj) (i:=2) (v:=.slice (some ⟨gW,oW,none⟩) n cW) rfl
     have ww:=HW.out.fr Yn.out aj i hil
     have hwi:=NQ.out i
     have HWY:=hid (Yk (W:=W) hbg)
     generalize nth W i=wi at *
     have hk1:((k+1:Nat):Int) - 1=(k:Int):=by omega
     have hk2:(k:Int)+1 - 1=(k:Int):=by omega
     have hkk:(k:Int)<(k:Int)+1:=by omega
     have ae6:IntKind.i64.wrap (0+wi)=wi:=by rw[fM];omega
     have hwr2:IntKind.i64.wrap wi=wi:=by rw[fM];omega
     go_region
     have hst:=Qv.out.stored k (.int .i64 wi)
     have HXZ:=hid (show(w9.setCell ⟨g8,k,none⟩ (.int .i64 wi)).drew.ownsRow (w3.heap.size+1) 2 1 (.slice (some ⟨g8,0,none⟩) (k+1) c8) (k+1) (iS (wl s W (i+1))) by
      rw[HWY.out,<-vJ.out,Int.zero_add,<-CN];exact iM hst.1 ((Fr.refl [] _).drew))
     have HVZ:=hid (show(w9.setCell ⟨g8,k,none⟩ (.int .i64 wi)).drew.ownsRow (w3.heap.size+1) 3 1 (.slice (some ⟨g',0,none⟩) (k+1) c') (k+1) (iS (AP s Lv (i+1))) by
      refine iM (mE HV9.out hst.2 (fun g hg=>?_)) ((Fr.refl [] _).drew)
      cases hg
      obtain⟨cs,t',f',h5,h6⟩:=pW Qv.out (g:=g8) rfl
      exact⟨cs,t',f',h5,by rw[h6];decide⟩)
     have hg8:=(ji Qv.out).1
     have HOZ:=hid (iJ Um.out (((Fr.m8 hst.2).trans ((Fr.refl [g8] _).drew))) (fun h=>by have:=ak.1 h;omega))
     have HFZ:=hid (show Fr [] w3 (w9.setCell ⟨g8,k,none⟩ (.int .i64 wi)).drew from(DC.out.iK (by omega)).drew)
     have HKZ:=hid (show k+1=(jF s (i+1)).length by rw[m7 hbg,aD,<-HK.out];rfl)
     clear hst
     go_wp2
     go_roundw
     case rel=>exact⟨i+1,k+1,_,_,by go_num,by omega,HKZ,HOZ,HVZ,HXZ,HFZ⟩
     case measure=>simp[intOf];omega)
   ·have Qw:A0 s i=false:=by cases h:A0 s i with | false=>rfl | true=>exact absurd h hbg
    rw[Qw]at Wl;have hpe:=Wl.out;obtain⟨km,hkm⟩:∃km,k=km+1:=⟨k - 1,by have:=Eh s (Ui Qw);rw[<-HK.out]at this;omega⟩;subst hkm;obtain⟨gX,cX',Jn⟩:=iQ (by omega) HX.out;cases Jn;go_wp2_with fail;go_quiet (fail);go_wp2_with fail;obtain⟨w9,SI⟩:∃w9,w9=(wr.alloc (.cells #[.int .i32 r0,.int .i64 ((p0:Nat):Int),.int .i64 ((p1:Nat):Int)] 48)).drewN nq:=⟨_,rfl⟩;have HG9:=hid (show Fr [] wr w9 by rw[SI];exact((Fr.refl [] wr).alloc _).trans (jf _ _));rw[<-SI];clear SI b0 c0 c1 c2 q0' q1' q2' Yl Ym Uk l0;have Um:=hid (iJ NT.out HG9.out aj);have Qv:=hid (iM HX.out HG9.out);have HV9:=hid (iM HV.out HG9.out);have DC:=hid (HF.out.trans HG9.out);have Yn:=hid (jQ.out.trans DC.out);have c29:=iG Um.out (i:=2) (v:=.slice (some ⟨gX,0,none⟩) (km+1) cX) rfl;have vJ:=hid (show km+1=(wl s W i).length by rw[tO];exact HK.out);have x9:=Qv.out.cellAt km (by omega);rw[k_ (by rw[<-vJ.out];omega)]at x9;have xf9:=Qv.out.frozenAt km;have m9:=iG (iJ Uj.out DC.out aj) (i:=2) (v:=.slice (some ⟨gW,oW,none⟩) n cW) rfl;have ww:=HW.out.fr Yn.out aj i hil;have hwi:=NQ.out i;have HWN:=hid (show wl s W (i+1)=(wl s W i).set km (nth (wl s W i) km+nth W i) by rw[abr Qw,<-vJ.out];rfl);have hxb:=GV s W NQ.out i km (by rw[<-HK.out];omega);have hxc:nth (wl s W i) km<=429496729600:=by
     have h5:(i:Int) * 1073741824<=400 * 1073741824:=dW (by omega) (by omega);omega
    have hxd:=hxb.1;clear hxb;generalize nth W i=wi at *;generalize nth (wl s W i) km=xk at *;have hk1:((km+1:Nat):Int) - 1=(km:Int):=by omega
    have hk2:(km:Int)+1 - 1=(km:Int):=by omega
    have hkk:(km:Int)<(km:Int)+1:=by omega
    have ae6:IntKind.i64.wrap (xk+wi)=xk+wi:=by rw[fM];omega
    go_region;have hst:=Qv.out.stored km (.int .i64 (xk+wi))
    have HXZ:=hid (show(w9.setCell ⟨gX,km,none⟩ (.int .i64 (xk+wi))).drew.ownsRow (w3.heap.size+1) 2 1 (.slice (some ⟨gX,0,none⟩) (km+1) cX) (km+1) (iS (wl s W (i+1))) by
     rw[HWN.out,<-CN];exact iM hst.1 ((Fr.refl [] _).drew))
    have HVZ:=hid (show(w9.setCell ⟨gX,km,none⟩ (.int .i64 (xk+wi))).drew.ownsRow (w3.heap.size+1) 3 1 (.slice aV (km+1) cV) (km+1) (iS (AP s Lv (i+1))) by
     rw[Yj Qw]
     refine iM (mE HV9.out hst.2 (fun g hg=>?_)) ((Fr.refl [] _).drew)
     cases hg
     obtain⟨cs,t',f',h5,h6⟩:=pW Qv.out (g:=gX) rfl
     exact⟨cs,t',f',h5,by rw[h6];decide⟩)
    have hg8:=(ji Qv.out).1;have HOZ:=hid (iJ Um.out (((Fr.m8 hst.2).trans ((Fr.refl [gX] _).drew))) (fun h=>by have:=ak.1 h;omega));have HFZ:=hid (show Fr [] w3 (w9.setCell ⟨gX,km,none⟩ (.int .i64 (xk+wi))).drew from(DC.out.iK (by omega)).drew);have HKZ:=hid (show km+1=(jF s (i+1)).length by rw[oS Qw,<-HK.out]);clear hst;go_wp2;go_roundw
    case rel=>exact⟨i+1,km+1,_,_,by go_num,by omega,HKZ,HOZ,HVZ,HXZ,HFZ⟩
    case measure=>simp[intOf];omega
  ·obtain rfl:i=n:=by omega
   have y_:¬(i:Int)<(i:Int):=by omega
   have wY:=hid (iJ CO.out HF.out aj);have c0:=iG NT.out (i:=0) (v:=.slice (some ⟨gB,0,none⟩) nb cB) rfl;have c1:=iG NT.out (i:=1) (v:=.slice aV k cV) rfl;have c2:=iG NT.out (i:=2) (v:=.slice aX k cX) rfl;have r0:=iG wY.out (i:=0) (v:=.slice none 0 0) rfl;have r1:=iG wY.out (i:=1) (v:=.slice none 0 0) rfl;have r2:=iG wY.out (i:=2) (v:=.slice none 0 0) rfl;have rf0:=iH wY.out 0;have rf1:=iH wY.out 1;have rf2:=iH wY.out 2;have hne:w3.heap.size≠w.heap.size+1:=by omega
   have ZJ:=hid (show k=cn s i by rw[oU hn];exact HK.out);have hk0:0<k:=by have:=Eh s hn;rw[<-HK.out]at this;exact this
   obtain⟨gV,cV',hvV⟩:=iQ hk0 HV.out;cases hvV;obtain⟨gX,cX',Jn⟩:=iQ hk0 HX.out;cases Jn;have s8:=hid (show(((wr.setCell ⟨w.heap.size+1,0,none⟩ (.slice (some ⟨gB,0,none⟩) nb cB)).setCell ⟨w.heap.size+1,1,none⟩ (.slice (some ⟨gV,0,none⟩) k cV)).setCell ⟨w.heap.size+1,2,none⟩ (.slice (some ⟨gX,0,none⟩) k cX)).heap[w.heap.size+1]?=some (.cells #[.slice (some ⟨gB,0,none⟩) nb cB,.slice (some ⟨gV,0,none⟩) k cV,.slice (some ⟨gX,0,none⟩) k cX] 146 (0,0))from iI (iI (iI wY.out 0 _) 1 _) 2 _);have Fz:=hid (show Fr [w.heap.size+1] wr (((wr.setCell ⟨w.heap.size+1,0,none⟩ (.slice (some ⟨gB,0,none⟩) nb cB)).setCell ⟨w.heap.size+1,1,none⟩ (.slice (some ⟨gV,0,none⟩) k cV)).setCell ⟨w.heap.size+1,2,none⟩ (.slice (some ⟨gX,0,none⟩) k cX))from((((Fr.refl [w.heap.size+1] wr).set (ak.2 rfl) _).set (ak.2 rfl) _).set (ak.2 rfl) _));go_wp2_with fail;have ae_:gB≠w.heap.size+1:=by have:=abu;omega
   refine fE (fH (t:=146) (fr:=(0,0)) rfl _ _ (w.heap.size+1) _ _ rfl s8.out underlying146 rfl (by kernel_rfl)) rfl ?_;have hgV:=(ji HV.out).1;have hgX:=(ji HX.out).1;refine⟨_,rfl,hid ⟨gB,cB,gV,cV,gX,⟨cX,by rw[<-ZJ.out,show k+1=nb by have:=XZ.out;have:=ZJ.out;omega]⟩,?_,?_,?_,by omega,by omega,by omega⟩,(((qQ.out.mono (fun _ h _=>absurd h aj):Fr [w.heap.size+1] w wr).trans Fz.out).mono (fun x hx hlt=>by have:=ak.1 hx;omega))⟩
   ·rw[<-XZ.out];exact(wR.out.fr HF.out aj).fr Fz.out (fun h=>ae_ (ak.1 h))
   ·intro j hj
    refine Fz.out.cell ?_ (fun h=>by have:=ak.1 h;omega);rw[HV.out.cellAt j (by have:=ZJ.out;omega),k_ (by rw[uV,<-HK.out];have:=ZJ.out;omega)]
   ·intro j hj
    refine Fz.out.cell ?_ (fun h=>by have:=ak.1 h;omega);rw[HX.out.cellAt j (by have:=ZJ.out;omega),k_ (by rw[tO,<-HK.out];have:=ZJ.out;omega)]
theorem Jq (c:Int)(w:World) :
 Calls prog 146 #[.int .i64 c] w fun e w'=>e=.returned (.bool (trail c))/\w'=w:=by
 have HT:=hid (show trail c=((c == 12) || ((mh c || c == 22) || gone c)) by unfold trail;cases (c == 12) <;> cases mh c <;> cases (c == 22) <;> cases gone c <;> rfl);obtain⟨R,hR⟩:∃R,R=trail c:=⟨_,rfl⟩;rw[<-hR]at HT ⊢;have H1:=hid (fun X:World=>Ci c X);have H2:=hid (fun X:World=>xO c X);clear hR;generalize (mh c || c == 22)=p at *;generalize gone c=q at *;by_cases h:c=12
 ·have hb:(c == 12)=true:=by simp[h]
  rw[hb]at HT;go_enter func146,ntmps146;go_wp2_with fail;go_ret;exact⟨by rw[HT.out];rfl,rfl⟩
 ·have hb:(c == 12)=false:=by simp[h]
  rw[hb]at HT;cases p
  ·go_enter func146,ntmps146
   go_wp2_with (first | (go_at_call 198;refine(H1.out _).mono ?_;rintro e w1 ⟨rfl,rfl⟩) | (go_at_call 196;refine(H2.out _).mono ?_;rintro e w1 ⟨rfl,rfl⟩));go_ret;exact⟨by rw[HT.out];simp,rfl⟩
  ·go_enter func146,ntmps146
   go_wp2_with (first | (go_at_call 198;refine(H1.out _).mono ?_;rintro e w1 ⟨rfl,rfl⟩) | (go_at_call 196;refine(H2.out _).mono ?_;rintro e w1 ⟨rfl,rfl⟩));go_ret;exact⟨by rw[HT.out];simp,rfl⟩
theorem Jr {s:ByteArray}{n:Nat}(h:Dec.Ends s n){i j:Nat}(hij:i<j)(hj:j<(jd s n).length):nth (bnd s n) i<nth (bnd s n) j:=by
 rw[nk h (by omega),nk h hj];have:=Dec.kR s _ _ (qN (lI s n) hij hj);omega
theorem Be {l:List Int}{k:Nat}(h:k<l.length):nth l k∈l:=by
 rw[nth,aA h];exact bB _
theorem Qx {s:ByteArray}{n:Nat}(h:Dec.Ends s n){k:Nat}(hk:k<(jd s n).length):cidx (bnd s n) (nth (bnd s n) k)=k:=by
 have hl:=lJ h;obtain⟨h1,h2⟩:=A_ (jW h) (x:=nth (bnd s n) k) (by simpa using Be (l:=bnd s n) (by omega));rw[<-rO]at h2
 rcases b8 (cidx (bnd s n) (nth (bnd s n) k)) k with h3 | h3 | h3
 ·have:=Jr h h3 hk;omega
 ·exact h3
 ·have:=Jr h h3 (by omega);omega
def CQ (s:ByteArray)(Br:List Int):List Int:=0 :: (Br++[((s.size:Nat):Int)])
theorem pP (s:ByteArray)(Br:List Int):(CQ s Br).length=Br.length+2:=by simp[CQ]
theorem zx {s:ByteArray}{n:Nat}(h:Dec.Ends s n){Br:List Int}(E:rP s n Br){k:Nat}(hk:k<=Br.length+1):nth (CQ s Br) k=nth (bnd s n) (kV s n Br k):=by
 have hc:kV s n Br k<(jd s n).length:=by
  have h8:=E.le k hk;have h9:=(jA s n).2.1;have:cn s n<(jd s n).length:=by { unfold cn;omega };unfold kV;omega
 rw[nk h hc]
 rcases bO k with h0 | h0
 ·subst h0
  rw[show kV s n Br 0=0 from E.e0,rD];simp[nth,CQ,Dec.pos]
 ·obtain⟨j,rfl⟩:∃j,k=j+1:=⟨k - 1,by omega⟩
  rcases aH (show j<=Br.length by omega)with h1 | h1
  ·rw[show((Dec.pos s (iP (jd s n) (kV s n Br (j+1))):Nat):Int)=nth Br j from E.at_ j h1]
   simp[nth,CQ,aJ h1]
  ·subst h1
   rw[show kV s n Br (Br.length+1)=cn s n from E.eN,lE];simp[nth,CQ];exact congrArg Int.ofNat h.1.symm
theorem xX {s:ByteArray}{n:Nat}(h:Dec.Ends s n){Br:List Int}(E:rP s n Br){k:Nat}(hk:k<=Br.length+1):cidx (bnd s n) (nth (CQ s Br) k)=kV s n Br k:=by
 rw[zx h E hk];refine Qx h ?_;have h8:=E.le k hk;have h9:=(jA s n).2.1;have:cn s n<(jd s n).length:=by { unfold cn;omega };unfold kV;omega
theorem CR {f g:Nat->Int}{o:List Nat}:∀k,(∀j,j<k->f (iP o j)=g (iP o j))->rN f o k=rN g o k
 | 0,_=>rfl
 | k+1,h=>by rw[rN,rN,CR k (fun j hj=>h j (by omega)),h k (by omega)]
theorem Qy {f g:Nat->Int}{o:List Nat}{k:Nat}(h:∀j,j<k->f (iP o j)=g (iP o j)):xs f o k=xs g o k:=by
 rw[xs,xs];refine List.map_congr_left (fun j hj=>?_);exact CR j (fun i hi=>h i (by have:=cE.1 hj;omega))
theorem Js {s:ByteArray}{n:Nat}(h:Dec.Ends s n)(hn:0<n){Br:List Int}(E:rP s n Br)(bs:Int)(W Lv:List Int)(hL:∀i,i<n->nth Lv i=AO s n bs Br i):zi (bnd s n) (AP s Lv n) (wl s W n) (CQ s Br) (Br.length+1)=Ic s n bs W Br (Br.length+1):=by
 rw[zi,Ic];refine List.map_congr_left (fun j hj=>?_);have hj:=cE.1 hj;have hb:=E.le (j+1) (by omega);have hab:=E.mono j (j+1) (by omega) (by omega);have hlv:∀k,k<cn s n->nth (AP s Lv n) k=AO s n bs Br (iP (jd s n) k):=fun k hk=>by
  have hk':k<(jF s n).length:=by rw[<-oU hn];exact hk
  rw[Jm hk',<-Cb hn hk',hL];have:=qN (lI s n) hk (by have:=(jA s n).2.1;unfold cn;omega);rw[lE]at this;exact this
 unfold lnP EZ;rw[xX h E (show j<=Br.length+1 by omega),xX h E (show j+1<=Br.length+1 by omega)];have hlen:=(jA s n).2.1;have hcn:cn s n<(jd s n).length:=by unfold cn;omega
 have ho:nY (fun t=>nth (AP s Lv n) (kV s n Br j+t)) (kV s n Br (j+1) - kV s n Br j)=nY (fun t=>AO s n bs Br (iP (jd s n) (kV s n Br j+t))) (kV s n Br (j+1) - kV s n Br j) :=
  I4 (fun t ht=>hlv _ (by unfold kV at *;omega))
 dsimp only;rw[ho,zx h E (show j<=Br.length+1 by omega),zx h E (show j+1<=Br.length+1 by omega),nk h (by unfold kV;omega),nk h (by unfold kV;omega)]
 congr 1
 refine Qy (fun t ht=>?_);have ht':t<(nY (fun t=>AO s n bs Br (iP (jd s n) (kV s n Br j+t))) (kV s n Br (j+1) - kV s n Br j)).length:=by rw[rH];exact ht
 rw[Kz ht'];have hlt:=A5 _ _ _ (qC ht');exact VV hn W (by unfold kV at *;omega)
end Go.Proofs.YtnakejhohdbfdacGreatDoor

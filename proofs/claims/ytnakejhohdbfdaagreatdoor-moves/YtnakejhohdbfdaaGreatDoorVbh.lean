import Derived.Test.YtnakejhohdbfdaaGreatDoorVbb
import Derived.Test.YtnakejhohdbfdaaGreatDoorVbc
import Derived.Test.YtnakejhohdbfdaaGreatDoorVbg
set_option maxHeartbeats 8000000
set_option maxRecDepth 100000
set_option linter.unusedSimpArgs false
namespace Go.Proofs.YtnakejhohdbfdaaGreatDoor
open Go.RowKit jN Go.Maps Go.Proofs.Tryz
theorem Vm {s:Sq}{C:List Int}(hI:inj s.I)(hw:within s.I C)(ho:s.own=0\/s.own=1)(hb:s.iq=0\/s.iq=1)(h:Among S3 s.I C s.I.length):scan s.I yN (kH s) C=neutral s C:=by
 have key:∀k,k<=s.I.length->jg s.I yN (kH s) k (0,C)=jg s.I isNe (kH s) k (0,C):=by
  intro k
  induction k with
  | zero=>intro _;rfl
  | succ k ih =>
    intro hk;have hv:=(IQ hI hw ho hb h k (by omega)).all k (by omega);rw[jg,jg,ih (by omega),lD,lD,aac hv]
 rw[scan,neutral,scan,key _ (ak _)]
theorem mK {K:List Int}{b:Int}(hb:b=0\/b=1\/b=2):gS K b=0\/gS K b=1:=by
 unfold gS;split
 ·split
  ·exact .inr rfl
  ·exact .inl rfl
 ·omega
structure agm (R K L C0:List Int)(base:Int)(ss:List (List Nat))(i:Nat):Prop where
 ne:run ss i≠[]
 sm:(run ss i).length<=K.length
 lt:∀x∈run ss i,x<K.length
 inj:inj (run ss i)
 w:within (run ss i) (iI R K L base ss i C0)
 s0:Among S0 (run ss i) (iI R K L base ss i C0) (run ss i).length
 g:∀x,0<=nth (kV R K L base ss C0 i) x/\nth (kV R K L base ss C0 i) x<=1000
theorem Vn (l c:Int):0<=lift l c/\lift l c<=2:=by
 unfold lift;split
 ·omega
 ·split <;> omega
theorem ab8 (R K:List Int)(base:Int)(hb:base=0\/base=1)(hK:∀i,0<=nth K i/\nth K i<=22)(i:Nat)(hi:i<(ny K (ig K (gK K base K.length).L K.length)).length) :
 agm R K (gK K base K.length).L (gK K base K.length).C base (ny K (ig K (gK K base K.length).L K.length)) i:=by
 have he:=nM K base hb K.length (ak _);have hc:=O0 K base hb K.length (ak _);obtain⟨ho,hng⟩:=O1 K base hb;have hrun:=oJ K (gK K base K.length).L K.length;have TB:=oK K (gK K base K.length).L;have hal:=zB hrun TB (fun a b h1 h2=>sF hb h1 h2) _ (ak _);have hsh:=zC (K:=K) (rs:=ig K (gK K base K.length).L K.length) _ (ak _);have hfl:=K5 hrun (k:=(ig K (gK K base K.length).L K.length).length);rw[xL TB]at hal hsh;generalize gK K base K.length=e at *;generalize ig K e.L K.length=rs at *;generalize ny K rs=ss at *;have hget:ss[i]?=some (run ss i):=by rw[run_get hi];exact az hi
 have hout:∀y,y∈run ss i->nth (iI R K e.L base ss i e.C) y=nth e.C y:=fun y hy=>by
  rw[oV 0 i (aH _) (fun t _ h2 h3=>by have:=ho.ap t i y (by omega) hi h3 hy;omega)];rfl
 have hlen:(iI R K e.L base ss i e.C).length=e.C.length:=tT (fun _ C=>D8 R K _ C) i;refine⟨(hal i _ hget).1,by have:=hsh i _ hget;omega,fun x hx=>ho.lt i x hi hx,sE (ho.so i hi),fun k hk=>?_,fun j hj=>?_,fun x=>?_⟩
 ·rw[hlen,he.len.2,gZ hk];exact ho.lt i _ hi (aT hk)
 ·unfold cl
  rw[gZ hj,hout _ (aT hj)];exact Wq hc hK (hng i _ hi (aT hj))
 ·obtain⟨g1,g2⟩:=wC (R:=R) (base:=base) (C0:=e.C) ho he.len.1 i (by omega)
  have hs:=he.small x;by_cases hx:∃t,t<i/\x∈run ss t
  ·obtain⟨t,ht,hm⟩:=hx
   rw[g1 t x ht hm];have:=Vn (nth e.L x) (nth (iI R K e.L base ss ss.length e.C) x);omega
  ·rw[g2 x (fun t ht hm=>hx ⟨t,ht,hm⟩)];omega
theorem SB.seq {w:World}{B S:Nat}{v:Value}{q:UH}{K L:List Int}{base:Int}{I:List Nat}(h:SB w B S v I (nth L (gq I)) (lV K L base I).iq (lV K L base I).jR q.U)(hU:q.U<B)(hne:I≠[])(hlt:∀x∈I,x<q.n)(hsm:I.length<=1000000):∃Q cQ,B<=Q/\SS w q S Q cQ (lV K L base I) (nth L (gq I)):=by
 obtain⟨Q,cQ,hv⟩:=fR (bB.2 hne) h.r;subst hv;have hat:=fZ h.r;have hle:=h.le;refine⟨Q,cQ,hat.1,h.cell rfl,h.cell rfl,h.cell rfl,h.cell rfl,fun k hk=>?_,fun k hk=>?_,⟨by omega,by omega⟩,hsm,zy h.r⟩
 ·rw[h.r.cellAt k (by rw[dS];exact hk)];exact U4 q.U I k hk
 ·rw[show fX (lV K L base I).I k=I[k]'hk from gZ hk];exact hlt _ (aT _)
theorem Hs {w:World}{b n:Nat}{D:DataW Unit}(h:w.ownsMap prog 3 (plainElem prog 3) b n D)(i:Nat):w.cell? ⟨b,i,none⟩=none:=by
 obtain⟨es,clock,hb,_⟩:=h;simp[World.cell?,hb]
theorem QM.ab9 {w:World}{q:UH}{P cU mb n:Nat}{lv:Int}{D:DataW Unit}(h:QM w q P cU mb n lv D)(x:Int):QM (w.setCell ⟨P,2,none⟩ (.int .i64 x)) q P cU mb n x D:=by
 have other:∀ {o:Nat} {y:Value},o≠2->w.cell? ⟨P,o,none⟩=some y->(w.setCell ⟨P,2,none⟩ (.int .i64 x)).cell? ⟨P,o,none⟩=some y:=fun ho hx=>by
  rw[fD _ _ _ _ (fun e=>ho (by cases e;rfl))];exact hx
 have hne:mb ∉ [P]:=fun hm=>by
  have h1:=Hs h.m 2;rw[aj.1 hm,h.s.c2]at h1;cases h1
 exact⟨⟨other (by decide) h.s.c0,fG _ _ _ h.s.c2,h.s.ne⟩,other (by decide) h.c1,vg h.m (gH w P 2 _) hne,h.i⟩
theorem YK (s:ByteArray)(b:Int)(w:World)(hs:s.size<=1000000)(hb:b=0\/b=1\/b=2)(h3:mE.TabAt w 3 iK.iN)(h4:mE.TabAt w 4 iK.g_)(n:Nat)(hend:gJ.Ends s n)(hn0:0<n)(hn:n<=1000000)(hK:∀i,0<=nth (Kl s n) i/\nth (Kl s n) i<=22) :
 Calls prog 38 #[.string s,.int .i64 b] w fun e w'=>∃g,e=.returned (.tuple #[.slice (some ⟨g,0,none⟩) n n,.int .i64 (gS (Kl s n) b)])/\rowAt w' g n (levels (Rl s n) (Kl s n) (gS (Kl s n) b))/\Fr [] w w'/\w.heap.size<=g/\soft w' g n:=by
 have YL:=hid (RJ s w hs h3 h4 n hend hn0);have HB:=hid (mK (K:=Kl s n) hb);have Ez:=hid (kG s n);have WW:=hid (IX (Rl s n) (Kl s n) (gS (Kl s n) b) (mK hb) hK);have ZI:=hid (ab8 (Rl s n) (Kl s n) (gS (Kl s n) b) (mK hb) hK);have HEI:=hid (nM (Kl s n) (gS (Kl s n) b) (mK hb) (Kl s n).length (ak _));have Ag:=hid (fun(a c:List Nat) h1 h2=>sF (K:=Kl s n) (base:=gS (Kl s n) b) (mK hb) (a:=a) (b:=c) h1 h2);have yE:=hid (fun(U P cU mb:Nat) (D:DataW Unit) (Y:World) hu hq=>ym ⟨U,n,Rl s n,Kl s n⟩ (Kl s n) (List.replicate (Kl s n).length 0) P cU mb n 0 D b Y hu hq (kG s n) hn hb);obtain⟨lv,hlv⟩:∃lv,lv=gS (Kl s n) b:=⟨_,rfl⟩;dsimp only at yE;rw[<-hlv]at HB WW ZI HEI Ag yE;rw[<-hlv];rw[Ez.out]at WW ZI HEI Ag;generalize Rl s n=R at *;generalize Kl s n=K at *;generalize levels R K lv=Z at *;clear hlv hb h3 h4 hend hs hK;go_enter func38,ntmps38;go_wp2_with fail;refine YL.out.mono ?_;rintro e w1 ⟨P,U,cU,mb,D,rfl,hu1,hq1,hmU,hf1,hfz,hPw,Ba⟩;have RK:=hid (yE.out U P cU mb D w1 hu1 hq1);have qB:=hid hu1;have U9:=hid hq1;have iy:=hid hf1;have c2:=hq1.s.c2;have hPU:=hq1.s.ne;have hml:=hq1.m.lt;have rW:=eS _ _ c2;have CN:U<w1.heap.size:=eS _ _ (hu1.r 0 hn0);dsimp only at hPU rW;clear hu1 hq1 hf1 YL yE;go_wp2_with fail;refine RK.out.mono ?_;rintro e w1 ⟨rfl,rfl⟩;have IK:=hid (U9.out.ab9 lv);have AF:=hid (qB.out.fr (gH w1 P 2 (.int .i64 lv)) (fun hm=>hPU (aj.1 hm).symm));have f_:=hid (show Fr [] w (w1.setCell ⟨P,2,none⟩ (.int .i64 lv))from iy.out.behind (gH w1 P 2 _) (fun k hk=>by rw[aj.1 hk];exact hPw));have H67:=hid (Nk ⟨U,n,R,K⟩ P cU mb n lv D _ AF.out IK.out hmU Ez.out hn hn0 HB.out);clear RK;go_wp2_with fail;refine H67.out.mono ?_;rintro e w3 ⟨rfl,hu3,hf3⟩;have HU3:=hid hu3;have iO:=hid hf3;have HQ3:=hid (IK.out.fr hf3 (fun hm=>hPU (aj.1 hm)) (fun hm=>hmU (aj.1 hm)));have YM:=hid (Ro ⟨U,n,R,K⟩ (gK K lv n).C (gK K lv n).L P cU mb n lv D w3 hu3 HQ3.out Ez.out hn hn0 (fun i=>(HEI.out.small i).1) (by dsimp only;rw[Ez.out];exact Ag.out));dsimp only at YM;rw[Ez.out]at YM;generalize hE:gK K lv n=E at *;clear hu3 hf3 H67 hE;have agn:=hid (show(ny K (ig K E.L n)).length<=n by have h5:=oK K E.L;have h6:=oF K E.L K.length;rw[<-xL (by rw[Ez.out]at h5;exact h5)];have h7:=zD K (ig K E.L n) (ig K E.L n).length;rw[Ez.out]at h6;omega);generalize ny K (ig K E.L n)=ss at *;go_wp2_with fail;refine YM.out.mono ?_;rintro e w4 ⟨v,gs,B,rfl,hal,hgs,hB,jl⟩;have hlen:=Rn hgs;obtain⟨m,hm⟩:∃m,m=gs.length:=⟨_,rfl⟩;obtain⟨a4,c4,hv4⟩:=gA hal.own;rw[<-hm]at hv4;subst hv4;have HA:=hid hal;have HG:=hid hgs;have gP:=hid jl;have HM:=hid hm;have Tn:=hid (hm.trans hlen);have hUB:U<B:=by have h5:=iO.out.size;have h6:=f_.out.size;simp at h5;omega
 have hmb:m<=1000000:=by
  have h5:=agn.out;rw[<-hlen,<-hm]at h5;omega
 clear hal hgs jl hm hlen YM;go_wp2;go_loopw [22] (fun a wr=>∃(k:Nat),a=.int .i64 k/\k<=m/\Hid (US wr ⟨U,n,R,K⟩ (iI R K E.L lv ss k E.C) (kV R K E.L lv ss E.C k))/\Hid (Fr [U] w4 wr)) (fun a _=>m - (Go.RowKit.intOf a).toNat)
 case atStart=>exact⟨0,rfl,aH _,hid (HU3.out.fr gP.out af),hid (Fr.refl _ _)⟩
 case round =>
  obtain⟨k,rfl,hk,W6,HF⟩:=hrel;by_cases hlt:k<m
  ·have hown:=HA.out.own
   rw[<-HM.out]at hown;obtain⟨g4,c5,hsh⟩:=fR (by omega) hown;cases hsh;have hkg:k<gs.length:=by rw[<-HM.out];exact hlt
   obtain⟨d,hd⟩:∃d,gs[k]?=some d:=⟨_,az hkg⟩;obtain⟨S,v1,I,xD,tC,Nh⟩:=d;have hgm:=HG.out.2 _ (List.mem_of_getElem? hd);dsimp only at hgm;obtain⟨rfl,rfl,rfl⟩:=hgm;have hI:run ss k=I:=by have h5:=Rm HG.out hd;simp[run,h5]
   have hsb:=HA.out.sb k _ hd;dsimp only at hsb;have hg4:=(fZ hown).1;have p1:=HF.out.cell (HA.out.cell hd HM.out) (fun hx=>by have:=aj.1 hx;omega);dsimp only at p1;have hSl:=hsb.le;have YN:=hsb.fr HF.out (fun hx=>by have:=aj.1 hx;omega) (fun g hg hx=>by have h5:=(hsb.r.lt g hg).1;have:=aj.1 hx;omega);have M9:=hid (ZI.out k (by rw[<-Tn.out];exact hlt));have Ou:=hid (show iI R K E.L lv ss (k+1) E.C=rules R K (lV K E.L lv (run ss k)) (iI R K E.L lv ss k E.C)from rfl);have HGN:=hid (show kV R K E.L lv ss E.C (k+1)=lA (run ss k) (nth E.L (gq (run ss k))) (iI R K E.L lv ss (k+1) E.C) (run ss k).length (kV R K E.L lv ss E.C k)from rfl);rw[hI]at Ou HGN;have sne:=M9.out.ne;have ssm:=M9.out.sm;have slt:=M9.out.lt;have Vo:=M9.out.inj;have sw:=M9.out.w;have ss0:=M9.out.s0;have sg:=M9.out.g;rw[hI]at sne ssm slt Vo sw ss0;rw[Ez.out]at ssm slt;obtain⟨Q,cQ,hBQ,hss⟩:=SB.seq (q:=⟨U,n,R,K⟩) YN hUB sne slt (by omega);obtain⟨sq,E7⟩:∃sq,sq=lV K E.L lv I:=⟨_,rfl⟩;have Vp:sq.I=I:=by rw[E7];rfl
   have RL:sq.iq=0\/sq.iq=1:=by rw[E7];exact wD _
   have YO:sq.own=way (nth E.L (gq I)):=by rw[E7];rfl
   have W8:sq.own=0\/sq.own=1:=by rw[YO];exact wD _
   have hl1:=(HEI.out.small (gq I)).1;rw[<-E7]at hss Ou;rw[<-Vp]at sne Vo sw ss0 HGN;rw[Vp]at HGN;have h0:0<sq.I.length:=bB.2 sne;generalize nth E.L (gq I)=xD at *;generalize iI R K E.L lv ss k E.C=C1 at *;generalize kV R K E.L lv ss E.C k=L1 at *;obtain⟨C2,hC2⟩:∃C2,C2=iI R K E.L lv ss (k+1) E.C:=⟨_,rfl⟩;rw[<-hC2]at Ou HGN;have UL:=hid hC2;have zm:=hid (fun X (hf:Fr [U] wr X)=>hss.fr hf (fun hx=>hss.ne.1 (aj.1 hx)) (fun hx=>hss.ne.2 (aj.1 hx)));have qC:=OG (K:=K) RL sw ss0;have H69:=hid (Bn ⟨U,n,R,K⟩ C1 L1 S Q cQ sq xD wr W6.out hss RL ss0 (fun C X hu hs=>RC ⟨U,n,R,K⟩ C L1 S Q cQ sq xD X hu hs h0));have sX:(k:Int)<(m:Int):=by omega
   have AK:=hid (show C2=neutral sq (brackets R K sq (weak K sq C1))from Ou.out);have HI:=hid Vp;have mo:=hid (fun h=>Vm (s:=sq) (C:=brackets R K sq (weak K sq C1)) Vo h W8 RL (Xk RL W8 _ qC.1 _));have qM:=hid (show(brackets R K sq (weak K sq C1)).length=C1.length by rw[brackets,E6];exact qC.2);have W7:=hid (show within sq.I C1 from sw);clear hsb YN hown hd hI hss sw ss0 qC Ou M9 sne E7 Vp slt hC2;go_wp2_with fail;refine H69.out.mono ?_;rintro e w5 ⟨rfl,WG,jC⟩;have H70:=hid (Vh ⟨U,n,R,K⟩ _ L1 S Q cQ sq xD w5 WG (zm.out w5 jC) h0 hl1 YO RL);have jP:=hid jC;clear WG jC H69;go_wp2_with fail;refine H70.out.mono ?_;rintro e w6 ⟨rfl,hu6,jo⟩;have s_:=hid (jP.out.trans jo);have H71:=hid (RD ⟨U,n,R,K⟩ _ L1 S Q cQ sq xD w6 hu6 (zm.out w6 s_.out) h0 hl1 YO);dsimp only at H71;rw[mo.out (W7.out.of qM.out),<-AK.out]at H71;clear hu6 jo H70;go_wp2_with fail;refine H71.out.mono ?_;rintro e w7 ⟨rfl,hu7,Jv⟩;have m7:=hid (s_.out.trans Jv);have H72:=hid (Qo ⟨U,n,R,K⟩ C2 L1 S Q cQ sq xD w7 hu7 (zm.out w7 m7.out) hl1 Vo sg);clear hu7 Jv H71;go_wp2_with fail;refine H72.out.mono ?_;rintro e w8 ⟨rfl,hu8,nE⟩;have HU8:=hid (show US w8 ⟨U,n,R,K⟩ C2 (kV R K E.L lv ss E.C (k+1)) by rw[HGN.out,<-HI.out];exact hu8);have q8:=hid (HF.out.trans (m7.out.trans nE));clear hu8 nE H72;go_wp2;go_roundw
   case rel=>exact⟨k+1,by go_num,by omega,hid (by rw[<-UL.out];exact HU8.out),q8⟩
   case measure=>simp[Go.RowKit.intOf];omega
  ·have hke:k=m:=by omega
   have sX:¬(k:Int)<(m:Int):=by omega
   have HQW:=hid (((HQ3.out.fr gP.out af af).s).fr HF.out (fun hx=>hPU (aj.1 hx)));have YP:=hid (BW ⟨U,n,R,K⟩ _ _ P cU lv wr W6.out HQW.out hn);dsimp only at YP;have HZ:=hid (show(jA K lv n (kV R K E.L lv ss E.C k)).2=Z by rw[WW.out,hke,Tn.out]);rw[HZ.out]at YP;clear hke;go_wp2_with fail;refine YP.out.mono ?_;rintro e w5 ⟨rfl,WG,jC⟩;have HQ5:=hid (HQW.out.fr jC (fun hx=>hPU (aj.1 hx)));have H74:=hid (fun X (hf:Fr [] w5 X)=>BZ ⟨U,n,R,K⟩ _ Z P cU lv X (WG.fr hf af) (HQ5.out.fr hf af) hn hn0);have jP:=hid (show Fr [] w w5 from(((f_.out.behind iO.out (fun k hk=>by rw[aj.1 hk];exact Ba)).trans gP.out).behind HF.out (fun k hk=>by rw[aj.1 hk];exact Ba)).behind jC (fun k hk=>by rw[aj.1 hk];exact Ba));have c2':=HQ5.out.c2;clear WG jC YP;go_wp2;go_region_with (first | (go_at_call 81;refine(H74.out _ ?_).mono ?_;exact iD _ _ _ rfl rfl rfl rfl;rintro e w6 ⟨g,rfl,hg,hrow,jo⟩;have JV:Fr [] w5 w6:=⟨jo.os,jo.tape,jo.output,jo.size,jo.block⟩;have s_:=hid (jP.out.trans JV);have HR6:=hid hrow;have jv:=hid hg.1;have HS6:=hid hg.2;have c3:=JV.cell c2' af;clear jo JV hrow hg))
   all_goals (
    go_wp2
    go_ret2
    exact⟨g,rfl,HR6.out,s_.out,a_ jP.out.size jv.out,HS6.out⟩)
theorem RM (w:World):Calls prog 125 #[.slice none 0 0] w fun e w'=>e=.returned (.map (some w.heap.size))/\w'=w.alloc (.map #[] 0):=by
 have hmm:=@run_makeMap prog;go_enter func125,ntmps125;go_wp2;go_loopw [4,11] (fun v a wr=>v=.slice none 0 0/\a=.int .i64 0/\wr=w.alloc (.map #[] 0)) (fun _ _ _=>0)
 case atStart=>exact⟨rfl,rfl,rfl⟩
 case round =>
  obtain⟨rfl,rfl,rfl⟩:=hrel;go_wp2;go_ret;exact⟨rfl,rfl⟩
structure QN (w:World)(P:Nat)(lv:Int):Prop where
 o:∃mb,w.heap[P]?=some (.cells #[.slice none 0 0,.map (some mb),.int .i64 lv] 137 (0,0))
theorem QN.fr {T:List Nat}{w w':World}{P:Nat}{lv:Int}(h:QN w P lv)(hf:Fr T w w')(hP:P ∉ T):QN w' P lv:=by
 obtain⟨mb,h⟩:=h;exact⟨mb,(hf.block P (aD.1 h).1 hP).trans h⟩
theorem QN.c0 {w:World}{P:Nat}{lv:Int}(h:QN w P lv):w.cell? ⟨P,0,none⟩=some (.slice none 0 0):=by
 obtain⟨mb,h⟩:=h;rw[fu _ _ 0 _ 137 (0,0) h];rfl
theorem QN.c2 {w:World}{P:Nat}{lv:Int}(h:QN w P lv):w.cell? ⟨P,2,none⟩=some (.int .i64 lv):=by
 obtain⟨mb,h⟩:=h;rw[fu _ _ 2 _ 137 (0,0) h];rfl
theorem QN.f2 {w:World}{P:Nat}{lv:Int}(h:QN w P lv):w.frozen? ⟨P,2,none⟩=false:=by
 obtain⟨mb,h⟩:=h;exact fF _ _ 2 _ 137 h
theorem QN.set {w:World}{P:Nat}{lv:Int}(h:QN w P lv)(x:Int):QN (w.setCell ⟨P,2,none⟩ (.int .i64 x)) P x:=by
 obtain⟨mb,h⟩:=h;exact⟨mb,by rw[fA _ _ 2 _ 137 _ h];rfl⟩
theorem RN (s:ByteArray)(w:World)(hs:s.size=0):Calls prog 72 #[.string s] w fun e w'=>e=.returned (.pointer (some ⟨w.heap.size,0,none⟩))/\QN w' w.heap.size 0/\Fr [] w w':=by
 go_enter func72,ntmps72;go_wp2_with fail;go_loopw [5] (fun _ wr=>wr.heap[w.heap.size+1]?=some (.stringIter s 0)/\Hid (wr.heap[w.heap.size]?=some (.cells #[.slice none 0 0,.map none,.int .i64 0] 137 (0,0)))/\Hid (Fr [] w wr)) (fun _ _=>0)
 case atStart =>
  refine⟨?_,hid ?_,hid ?_⟩
  ·have e:(w.alloc (.cells #[.slice none 0 0,.map none,.int .i64 0] 137)).heap.size=w.heap.size+1:=by simp
   rw[<-e];exact World.iter_heap _ _ _
  ·exact(Lib.alloc_old _ _ _ (by simp)).trans (fH _ _)
  ·exact((Fr.refl _ _).alloc _).alloc _
 case round =>
  obtain⟨hit,HA,HF⟩:=hrel;have hnx:=fun ty=>Lib.run_next_end_at (P:=prog) wr (w.heap.size+1) s 0 ty hit (by omega)
  have g0:wr.cell? ⟨w.heap.size,0,none⟩=some (.slice none 0 0):=by rw[fu _ _ 0 _ 137 (0,0) HA.out];rfl
  have HA1:=hid ((Below.heap_alloc wr (.map #[] 0) w.heap.size (aD.1 HA.out).1).trans HA.out);have g1:(wr.alloc (.map #[] 0)).cell? ⟨w.heap.size,1,none⟩=some (.map none):=by rw[fu _ _ 1 _ 137 (0,0) HA1.out];rfl
  have g2:=fF (wr.alloc (.map #[] 0)) w.heap.size 1 _ 137 HA1.out;go_wp2_with (first | (go_at_call 125;refine(RM _).mono ?_;rintro e w1 ⟨rfl,rfl⟩));go_ret;refine⟨rfl,⟨wr.heap.size,?_⟩,?_⟩
  ·rw[fA _ _ 1 _ 137 _ HA1.out];rfl
  ·exact(HF.out.alloc _).behind (gH _ _ 1 _) (fun k hk=>by rw[aj.1 hk];exact ak _)
theorem JW (P:Nat)(w:World):Calls prog 126 #[.pointer (some ⟨P,0,none⟩),.int .i64 0,.int .i64 0] w fun e w'=>e=.returned (.bool false)/\w'=w:=by
 go_enter func126,ntmps126;go_wp2;go_loopw [7] (fun a wr=>a=.int .i64 0/\wr=w) (fun _ _=>0)
 case atStart=>exact⟨rfl,rfl⟩
 case round =>
  obtain⟨rfl,rfl⟩:=hrel;go_wp2;go_ret;exact⟨rfl,rfl⟩
theorem RO (P:Nat)(b:Int)(w:World)(h:QN w P 0)(hb:b=0\/b=1\/b=2):Calls prog 73 #[.pointer (some ⟨P,0,none⟩),.int .i64 b] w fun e w'=>e=.returned (.int .i64 (gS [] b))/\w'=w:=by
 have c0:=h.c0;clear h
 rcases hb with rfl | rfl | rfl
 all_goals (
  go_enter func73,ntmps73
  go_wp2_with (first | (go_at_call 126;refine(JW _ _).mono ?_;rintro e w1 ⟨rfl,rfl⟩) | (go_at_call 127;refine(Cf _ _).mono ?_;rintro e w1 ⟨rfl,rfl⟩))
  go_ret
  exact⟨rfl,rfl⟩)
theorem Nz (P:Nat)(lv:Int)(w:World)(h:QN w P lv):Calls prog 74 #[.pointer (some ⟨P,0,none⟩)] w fun e w'=>e=.returned (.tuple #[])/\Fr [] w w':=by
 have c0:=h.c0;have c2:=h.c2;have hp:=eS _ _ c2;dsimp only at hp;clear h;go_enter func74,ntmps74;go_wp2;obtain⟨W,hW⟩:∃W,(w.alloc (.cells #[.int .i64 lv,.int .i64 (-1),.bool false] 207)).alloc (.cells #[.slice (some ⟨w.heap.size,0,none⟩) 1 1,.int .i64 0,.int .i64 0,.int .i64 0] 210)=W:=⟨_,rfl⟩;have HF:=hid (show Fr [] w W by rw[<-hW];exact((Fr.refl _ _).alloc _).alloc _);rw[hW];clear hW;go_loopw [17] (fun a wr=>a=.int .i64 0/\wr=W) (fun _ _=>0)
 case atStart=>exact⟨rfl,rfl⟩
 case round =>
  obtain⟨rfl,rfl⟩:=hrel;go_wp2;go_end0;exact⟨rfl,HF.out⟩
theorem RQ (P:Nat)(lv:Int)(w:World)(h:QN w P lv):Calls prog 134 #[.pointer (some ⟨P,0,none⟩)] w fun e w'=>e=.returned (.slice none 0 0)/\w'=w:=by
 have c0:=h.c0;clear h;go_enter func134,ntmps134;go_wp2;go_loopw [3,12] (fun v a wr=>v=.slice none 0 0/\a=.int .i64 0/\wr=w) (fun _ _ _=>0)
 case atStart=>exact⟨rfl,rfl,rfl⟩
 case round =>
  obtain⟨rfl,rfl,rfl⟩:=hrel;go_wp2;go_ret;exact⟨rfl,rfl⟩
theorem RR (P:Nat)(lv:Int)(w:World)(h:QN w P lv):Calls prog 75 #[.pointer (some ⟨P,0,none⟩)] w fun e w'=>e=.returned (.slice none 0 0)/\w'=w.alloc (.map #[] 0):=by
 have hmm:=@run_makeMap prog;have HR:=hid (RQ P lv w h);clear h;go_enter func75,ntmps75;go_wp2_with (first | (go_at_call 134;refine HR.out.mono ?_;rintro e w1 ⟨rfl,rfl⟩));go_loopw [4,17] (fun v a wr=>v=.slice none 0 0/\a=.int .i64 0/\wr=w1.alloc (.map #[] 0)) (fun _ _ _=>0)
 case atStart=>exact⟨rfl,rfl,rfl⟩
 case round =>
  obtain⟨rfl,rfl,rfl⟩:=hrel;go_wp2;go_ret;exact⟨rfl,rfl⟩
theorem RS (P:Nat)(lv:Int)(w:World)(h:QN w P lv):Calls prog 80 #[.pointer (some ⟨P,0,none⟩)] w fun e w'=>e=.returned (.tuple #[])/\w'=w:=by
 have c0:=h.c0;have c2:=h.c2;clear h;go_enter func80,ntmps80;go_wp2;go_loopw [2,13] (fun x a wr=>x=.int .i64 lv/\a=.int .i64 0/\wr=w) (fun _ _ _=>0)
 case atStart=>exact⟨rfl,rfl,rfl⟩
 case round =>
  obtain⟨rfl,rfl,rfl⟩:=hrel;go_wp2;go_end0;exact⟨rfl,rfl⟩
theorem JX (P:Nat)(lv:Int)(w:World)(h:QN w P lv):Calls prog 81 #[.pointer (some ⟨P,0,none⟩)] w fun e w'=>(∃g,e=.returned (.slice (some ⟨g,0,none⟩) 0 0))/\Fr [] w w':=by
 have c0:=h.c0;have hp:=eS _ _ c0;dsimp only at hp;obtain⟨i3,hi3,rQ,rS,hz32⟩:=e_ info3;obtain⟨ZL,K1⟩:∃ZL,ZL=madeCells #[.int .i64 0] 0:=⟨_,rfl⟩;have M5:∀X:World,(Instr.makeSlice 22 (.int .i64 0) (.int .i64 0)).run prog X=.ok (.slice (some ⟨X.heap.size,0,none⟩) 0 0) (X.alloc (.cells ZL 3)):=fun X=>by
  have:=run_make (P:=prog) X 22 3 i3 _ underlying22 hi3 rQ .i64 .i64 0 0 (by omega) (dU _) (by rw[hz32];omega) (by omega);rw[rS]at this;rw[K1];exact this
 clear h K1;go_enter func81,ntmps81;go_wp2;go_loopw [17] (fun a wr=>a=.int .i64 0/\wr=w.alloc (.cells ZL 3)) (fun _ _=>0)
 case atStart=>exact⟨rfl,rfl⟩
 case round =>
  obtain⟨rfl,rfl⟩:=hrel;go_wp2;go_ret;exact⟨⟨_,rfl⟩,(Fr.refl _ _).alloc _⟩
theorem of_nil (s:ByteArray)(b:Int)(w:World)(hs:s.size=0)(hb:b=0\/b=1\/b=2) :
 Calls prog 38 #[.string s,.int .i64 b] w fun e w'=>∃g,e=.returned (.tuple #[.slice (some ⟨g,0,none⟩) 0 0,.int .i64 (gS [] b)])/\Fr [] w w':=by
 have YL:=hid (RN s w hs);have yE:=hid (fun Y h=>RO w.heap.size b Y h hb);generalize gS [] b=lv at *;clear hs hb;go_enter func38,ntmps38;go_wp2_with fail;refine YL.out.mono ?_;rintro e w1 ⟨rfl,hq1,hf1⟩;have RK:=hid (yE.out w1 hq1);have U9:=hid hq1;have iy:=hid hf1;have c2:=hq1.c2;have f2:=hq1.f2;have rW:=eS _ _ c2;dsimp only at rW;clear YL yE hq1 hf1;go_wp2_with fail;refine RK.out.mono ?_;rintro e w1 ⟨rfl,rfl⟩;have IK:=hid (U9.out.set lv);have f_:=hid (show Fr [] w (w1.setCell ⟨w.heap.size,2,none⟩ (.int .i64 lv))from iy.out.behind (gH w1 _ 2 _) (fun k hk=>by rw[aj.1 hk];exact ak _));have H67:=hid (Nz w.heap.size lv _ IK.out);clear RK;go_wp2_with fail;refine H67.out.mono ?_;rintro e w3 ⟨rfl,hf3⟩;have HQ3:=hid (IK.out.fr hf3 af);have iO:=hid (f_.out.trans hf3);have YM:=hid (RR w.heap.size lv w3 HQ3.out);clear H67 hf3;go_wp2_with fail;refine YM.out.mono ?_;rintro e w4 ⟨rfl,rfl⟩;have Yw:=hid (HQ3.out.fr ((Fr.refl [] w3).alloc (.map #[] 0)) af);have gP:=hid (iO.out.alloc (.map #[] 0));have YP:=hid (RS w.heap.size lv _ Yw.out);generalize w3.alloc (.map #[] 0)=w4 at *;clear YM;go_wp2;go_loopw [22] (fun a wr=>a=.int .i64 0/\wr=w4) (fun _ _=>0)
 case atStart=>exact⟨rfl,rfl⟩
 case round =>
  obtain⟨rfl,rfl⟩:=hrel;go_wp2_with fail;refine YP.out.mono ?_;rintro e w5 ⟨rfl,rfl⟩;have c3:=Yw.out.c2;have H74:=hid (fun X (hf:Fr [] w5 X)=>JX w.heap.size lv X (Yw.out.fr hf af));clear YP;go_wp2;go_region_with (first | (go_at_call 81;refine(H74.out _ ?_).mono ?_;exact iD _ _ _ rfl rfl rfl rfl;rintro e w6 ⟨⟨g,rfl⟩,jo⟩;have JV:Fr [] w5 w6:=⟨jo.os,jo.tape,jo.output,jo.size,jo.block⟩;have s_:=hid (gP.out.trans JV);have c4:=JV.cell c3 af;clear jo JV))
  all_goals (
   go_wp2
   go_ret2
   exact⟨g,rfl,s_.out⟩)
end Go.Proofs.YtnakejhohdbfdaaGreatDoor
namespace Go.Proofs.YtnakejhohdbfdaaGreatDoor
open Go.RowKit jN Lay uS Go.Proofs.Tryz
def qD (s:ByteArray)(n:Nat)(bs:Int)(Br:List Int)(i:Nat):Int:=Tf (Kl s n) (levels (Rl s n) (Kl s n) bs) bs (Iw (jw s n) (bnd s n) Br) i
def jc (s:ByteArray)(n:Nat)(Br:List Int)(k:Nat):Nat:=ei (bnd s n) (cn s n) Br k
def AR (s:ByteArray)(n:Nat)(bs:Int)(W Br:List Int)(k:Nat):List Ln:=(List.range k).map fun j=>yf (gJ.pos s) (fX (jw s n)) (qD s n bs Br) W (jc s n Br j) (jc s n Br (j+1))
theorem RT (s:ByteArray)(n:Nat)(bs:Int)(W Br:List Int)(k:Nat):AR s n bs W Br (k+1)=AR s n bs W Br k++[yf (gJ.pos s) (fX (jw s n)) (qD s n bs Br) W (jc s n Br k) (jc s n Br (k+1))]:=by
 rw[AR,dA,cJ];rfl
theorem pM (s:ByteArray)(n:Nat)(bs:Int)(W Br:List Int)(k:Nat):(AR s n bs W Br k).length=k:=by simp[AR]
theorem Ht {s:ByteArray}{n i:Nat}(h:gJ.Ends s n)(hi:i<=n):gJ.pos s i<=s.size:=by
 rcases aA hi with h1 | h1
 ·exact bZ (h.2 i h1)
 ·rw[h1,h.1];exact ak _
theorem YQ {s:ByteArray}{n:Nat}{bs:Int}{W Br:List Int}(hs:s.size<=400)(h:gJ.Ends s n)(hn:0<n)(hb:bs=0\/bs=1)(hW:W.length=n)(hw:Et W n=true):Ctx (gJ.pos s) (fX (jw s n)) (qD s n bs Br) W n (cn s n) where
 n0:=hn
 n1:=by have:=gJ.lU s n;have:=h.1;omega
 cn:=by have:=jk s n;rw[cn];omega
 mono:=gJ.kY s
 T1:=fun i j hij hj=>qT (kR s n) hij (by have:=jk s n;rw[cn]at hj;omega)
 ric:=kL s n
 ev:=fun i=>by have:=zk (Rl s n) (Kl s n) bs hb (Iw (jw s n) (bnd s n) Br) i;unfold qD;omega
 wb:=fun i=>by
  by_cases hi:i<n
  ·exact Fw hw hi
  ·rw[nth,bq (by omega)];decide
 pb:=fun i hi=>a_ (Ht h hi) hs
theorem Vq {s:ByteArray}{n:Nat}{bs:Int}{Br:List Int}(E:qN s n Br){k:Nat}(hk:k<=Br.length)(i:Nat)(h1:fX (jw s n) (jc s n Br k)<=i)(h2:i<fX (jw s n) (jc s n Br (k+1))) :
 Wv (Kl s n) (levels (Rl s n) (Kl s n) bs) bs (fX (jw s n) (jc s n Br (k+1))) i=qD s n bs Br i:=by
 have hb:fX (jw s n) (jc s n Br (k+1))<=(Kl s n).length:=by
  rw[kG];have h3:=E.le (k+1) (by omega);have hl:=jk s n
  rcases aA h3 with h4 | h4
  ·have:=qT (kR s n) h4 (by rw[cn];omega);rw[kL]at this;exact bZ this
  ·unfold jc;rw[h4,kL];exact ak _
 rw[Wv,qD,Tf,En (Kl s n) (Iw (jw s n) (bnd s n) Br) _ _ hb (Up (by omega)) (fun m a1 a2=>XJ E hk a1 a2) _ i rfl h1 h2]
theorem Fr.Hu {w w1 w2:World}{lb:Nat}(h:Fr [] w w1)(k:Fr [lb] w1 w2)(hl:w.heap.size<=lb):Fr [] w w2 :=
 ((h.mono (fun _ hx _=>absurd hx af):Fr [lb] w w1).trans k).mono (fun x hx hlt=>by have:=aj.1 hx;omega)
theorem RU (s:ByteArray)(b:Int)(vW vB:Value)(W Br:List Int)(n:Nat)(w:World)(hs:s.size<=400)(hb:b=0\/b=1\/b=2)(hT:Lib.Utf8Tabs 1 2 w)(hend:gJ.Ends s n)(hn:0<n)(hW:mA w vW W)(tJ:W.length=n)(hw:Et W n=true)(hB:mA w vB Br)(hBl:Br.length<=900)(hbr:jH (bnd s n) s.size Br Br.length=true) :
 Calls prog 54 #[.agg #[.string s,.int .i64 b,vW,vB]] w fun e w'=>∃lb WB vC vL hs,e=.returned (.pointer (some ⟨lb,0,none⟩))/\LD WB w' w'.heap.size lb s (gS (Kl s n) b) vC vL (rO (gJ.pos s) (fX (jw s n)) (qD s n (gS (Kl s n) b) Br) W (cn s n)) (AR s n (gS (Kl s n) b) W Br (Br.length+1)) hs/\w.heap.size<=lb/\Fr [] w w':=by
 have DC:n<=400:=by have:=gJ.lU s n;have:=hend.1;omega
 have hbs:gS (Kl s n) b=0\/gS (Kl s n) b=1:=mK hb;obtain⟨aW,cW,rfl,hW2⟩:=hW;obtain⟨gW,oW,rfl,Vr⟩:=hW2.resolve_left (by omega);obtain⟨aB,cB,rfl,hB2⟩:=hB;rw[tJ]at Vr ⊢;obtain⟨wb,hwb⟩:∃wb,wb=w.alloc (.cells #[.string s,.int .i64 b,.slice (some ⟨gW,oW,none⟩) n cW,.slice aB Br.length cB] 35):=⟨_,rfl⟩;have nD:=hid (show Fr [] w wb by rw[hwb];exact(Fr.refl [] w).alloc _);have qy:=hid (show wb.heap[w.heap.size]?=some (.cells #[.string s,.int .i64 b,.slice (some ⟨gW,oW,none⟩) n cW,.slice aB Br.length cB] 35 (0,0)) by rw[hwb];exact fU w _);have HTb:=hid (fun(X:World) (hf:Fr [] w X)=>mE.oB hT (hf.below (ak _) (fun _ h=>absurd h af)));have YR:=hid (M4 s b wb (by omega) (HTb.out wb nD.out) n hend hn hb);have HE:=hid (Cu hend hn Br hbr);have L7:=hid hend;have HX:=hid (YQ (Br:=Br) hs hend hn hbs tJ hw);have xF:=hid hbs;have HWr:=hid Vr;have HB2:=hid hB2;have hgW:gW<w.heap.size:=eS _ _ (Vr 0 hn);obtain⟨nB,yK⟩:∃nB,nB=Br.length:=⟨_,rfl⟩;rw[<-yK]at hwb qy hBl HB2 ⊢;have sU:=hid yK;obtain⟨bs,RV⟩:∃bs,bs=gS (Kl s n) b:=⟨_,rfl⟩;rw[<-RV]at YR HX xF ⊢;clear hW2 hB2 Vr hT hend hbs RV yK hbr hw;go_enter func54,ntmps54;go_wp2_with fail;rw[<-hwb];have Cn:wb.heap.size=w.heap.size+1:=by rw[hwb];simp
 have alF:=hid Cn;clear hwb Cn;refine YR.out.mono ?_;rintro e w1 ⟨q,C,G,rfl,hP,Jh,WT,UZ,hG,ZD,hf1⟩;have iy:=hid (nD.out.trans hf1);have zh:=hid (fO qy.out hf1 af);have HP:=hid hP;have HG:=hid hG;have DA:=hid ZD;have Tg:=hid Jh;have Q_:=hid WT;have HQB:=hid UZ;have k0:=fN zh.out (i:=0) rfl;have k6:=hP.c6;rw[UZ]at k6;have hsb:=h_ zh.out;have ZV:q.p<w1.heap.size:=hP.lt;clear hP hG ZD Jh WT UZ hf1 YR;go_wp2_with fail;go_region;obtain⟨w2,hw2⟩:∃w2,w2=(w1.alloc (.cells #[.string s,.int .i64 bs,.slice none 0 0,.slice none 0 0] 46)).drew:=⟨_,rfl⟩;have f_:=hid (show Fr [] w1 w2 by rw[hw2];exact Om _ _);have Cz:=hid (show w2.heap[w1.heap.size]?=some (.cells #[.string s,.int .i64 bs,.slice none 0 0,.slice none 0 0] 46 (0,0)) by rw[hw2];exact fU w1 _);rw[<-hw2];clear hw2;have Fx:=hid (fO zh.out f_.out af);clear k0 k6;have k0:=fN Fx.out (i:=0) rfl;have JY:=hid (mE.mI s w2 (by omega) (HTb.out w2 (iy.out.trans f_.out)) n L7.out);go_wp2_with fail;refine JY.out.mono ?_;rintro e WB ⟨v5,rfl,qx,hb5⟩;have iO:=hid (f_.out.trans (Fr.of_below (S:=[]) hb5));have RX:=hid (fO Cz.out (Fr.of_below (S:=[]) hb5) af);have wX:=hid (fO zh.out iO.out af);have Hv:(bnd s n).length=cn s n+1:=by have:=jk s n;rw[j5 L7.out,cn];omega
 rw[Hv]at qx;obtain⟨gB,cB5,hv5⟩:=fR (by omega) qx;subst hv5;have wV:=hid (show rowAt WB gB (cn s n+1) (bnd s n)from fun j hj=>by rw[qx.cellAt j (by omega),iJ (by omega)]);have hgB:=fZ qx;have hlb:w1.heap.size<WB.heap.size:=h_ RX.out;have YS:w1.heap.size<w2.heap.size:=h_ Cz.out;have Je:=hid (HP.out.iS iO.out);have agr:=hid (DA.out.fr iO.out af);have ags:=hid (HWr.out.fr (iy.out.trans iO.out) af)
 have yg:=hid (show w1.heap.size≠q.p/\w1.heap.size≠q.bR/\w1.heap.size≠q.bF/\w1.heap.size≠q.bM/\w1.heap.size≠q.bC/\w1.heap.size≠q.bL/\w1.heap.size≠q.bG/\w1.heap.size≠gW/\w1.heap.size≠gB by
  have hn':0<q.n:=by rw[Tg.out];exact hn
  have h1:=HP.out.lt;have h2:=HP.out.ltR hn';have h3:=HP.out.ltF hn';have h4:=HP.out.ltM hn';have h5:=HP.out.Td hn';have h6:=HP.out.ltL hn';have h7:=HP.out.ltG hn'
  omega)
 have HL0:=hid (show LD WB WB WB.heap.size w1.heap.size s bs (.slice none 0 0) (.slice none 0 0) (rO (gJ.pos s) (fX (jw s n)) (qD s n bs Br) W (jc s n Br 0)) (AR s n bs W Br 0) []from
  ⟨Fr.refl _ _,hlb,RX.out,eY _ _ _ _,eY _ _ _ _,fun j l hj=>by simp[AR]at hj⟩)
 have HMB:=hid (fun k (hk:k<=cn s n)=>mJ L7.out (k:=k) (by have:=jk s n;rw[cn]at hk;omega));have agu:cn s n<=n:=HX.out.cn;have YN:=hsb;clear qx hb5 JY k0 Hv;have k0:=fN wX.out (i:=0) rfl;have k3:=fN wX.out (i:=3) rfl;go_wp2_with fail;go_loopw [6,7] (fun ff kk wr=>∃(k:Nat) (U:Nat) (vC vL:Value) (hs':List Value),kk=.int .i64 k/\k<=nB+1/\ff=.int .i64 (gJ.pos s (fX (jw s n) (jc s n Br k)):Nat)/\Hid (LD WB wr U w1.heap.size s bs vC vL (rO (gJ.pos s) (fX (jw s n)) (qD s n bs Br) W (jc s n Br k)) (AR s n bs W Br k) hs')/\U<=wr.heap.size) (fun _ kk _=>nB+1 - (intOf kk).toNat)
 case atStart=>exact⟨0,WB.heap.size,_,_,_,rfl,aH _,by rw[jc,HE.out.e0,Ca];rfl,HL0,ak _⟩
 case round =>
  obtain⟨k,U,vC,vL,hs',rfl,hkn,rfl,Tr,hU⟩:=hrel;have j0:=fN (fO wX.out Tr.out.fr (fun h=>by have:=aj.1 h;omega)) (i:=0) rfl;have j2:=fN (fO wX.out Tr.out.fr (fun h=>by have:=aj.1 h;omega)) (i:=2) rfl;have j3:=fN (fO wX.out Tr.out.fr (fun h=>by have:=aj.1 h;omega)) (i:=3) rfl;by_cases hkl:k<=nB
  ·have sX:(k:Int)<=(nB:Int):=by omega
   have hab:jc s n Br k<jc s n Br (k+1):=HE.out.mono k (k+1) (by omega) (by have:=sU.out;omega);have hbc:jc s n Br (k+1)<=cn s n:=HE.out.le (k+1) (by have:=sU.out;omega);have sZ:=hid (PL (gJ.pos s) (fX (jw s n)) (qD s n bs Br) W (bnd s n) n (cn s n) HX.out q C (levels (Rl s n) (Kl s n) bs) G WB wr U w1.heap.size s bs vC vL (AR s n bs W Br k) hs' gW oW cW gB cB5 (jc s n Br k) (jc s n Br (k+1)) Tr.out hU (by rw[pM];omega) Je.out (fun i hi=>by rw[Q_.out];exact HG.out i (by rw[<-Tg.out];exact hi)) Tg.out agr.out ags.out wV.out HMB.out yg.out hab hbc (fun i h1 h2=>by rw[Q_.out,HQB.out];exact Vq HE.out (by have:=sU.out;omega) i h1 h2));have mN:=hid (RT s n bs W Br k)
   have FY:=hid (show((gJ.pos s (fX (jw s n) (jc s n Br (k+1))):Nat):Int)=if k<nB then nth Br k else((s.size:Nat):Int) by
    by_cases h:k<nB
    ·rw[ay h];exact HE.out.at_ k (by have:=sU.out;omega)
    ·have e:k+1=Br.length+1:=by have:=sU.out;omega
     rw[au h,jc,e,HE.out.eN,kL,L7.out.1])
   generalize gJ.pos s (fX (jw s n) (jc s n Br k))=fa at *;generalize htb:gJ.pos s (fX (jw s n) (jc s n Br (k+1)))=tb at *;have acj:=hid htb;clear htb;by_cases Vs:k<nB
   ·have agv:(k:Int)<(nB:Int):=by omega
    obtain⟨g,o,haB,hrow⟩:=HB2.out.resolve_left (by omega);have hgl:g<w.heap.size:=eS _ _ (hrow k Vs);have d0:=Tr.out.fr.cell ((iy.out.trans iO.out).cell (hrow k Vs) af) (fun h=>by have:=aj.1 h;have:=iy.out.size;omega);subst haB;have Vt:nth Br k=((tb:Nat):Int):=by rw[FY.out,ay Vs]
    rw[Vt]at d0;clear hrow Vt;go_wp2_with fail;refine sZ.out.mono ?_;rintro e w9 ⟨rfl,Mc,T3,hs9,W9⟩;have Xy:=hid W9;clear W9 sZ;go_wp2;go_roundw
    case rel=>exact⟨k+1,w9.heap.size,Mc,T3,hs9,by go_num,by omega,by rw[acj.out],hid (by rw[mN.out];exact Xy.out),ak _⟩
    case measure=>simp[intOf];omega
   ·have agv:¬(k:Int)<(nB:Int):=by omega
    have Vt:((s.size:Nat):Int)=((tb:Nat):Int):=by rw[FY.out,au Vs]
    have agw:tb=s.size:=by omega
    subst agw;clear Vt;go_wp2_with fail;refine sZ.out.mono ?_;rintro e w9 ⟨rfl,Mc,T3,hs9,W9⟩;have Xy:=hid W9;clear W9 sZ;go_wp2;go_roundw
    case rel=>exact⟨k+1,w9.heap.size,Mc,T3,hs9,by go_num,by omega,by rw[acj.out],hid (by rw[mN.out];exact Xy.out),ak _⟩
    case measure=>simp[intOf];omega
  ·obtain rfl:k=nB+1:=by omega
   have sX:¬((nB+1:Nat):Int)<=(nB:Int):=by omega
   have Uw:=hid (show LD WB wr wr.heap.size w1.heap.size s bs vC vL (rO (gJ.pos s) (fX (jw s n)) (qD s n bs Br) W (cn s n)) (AR s n bs W Br (nB+1)) hs' by
    have h:=Tr.out
    have e:jc s n Br (nB+1)=cn s n:=by rw[jc,sU.out];exact HE.out.eN
    rw[e]at h
    exact h.mono hU)
   go_wp2;go_ret;refine⟨w1.heap.size,rfl,⟨WB,vC,vL,hs',Uw.out⟩,iy.out.size,?_⟩;have h1:=Uw.out.fr;exact(iy.out.trans iO.out).Hu h1 iy.out.size
def AU (s:ByteArray)(Lv:List Int)(i:Nat):List Int:=(iU s i).map (nth Lv)
theorem Vu {s:ByteArray}{Lv:List Int}{i:Nat}(h:A5 s i=true):AU s Lv (i+1)=AU s Lv i++[nth Lv i]:=by rw[AU,mS h,cJ];rfl
theorem YT {s:ByteArray}{Lv:List Int}{i:Nat}(h:A5 s i=false):AU s Lv (i+1)=AU s Lv i:=by rw[AU,oM h];rfl
theorem vw (s:ByteArray)(Lv:List Int)(i:Nat):(AU s Lv i).length=(iU s i).length:=by simp[AU]
theorem JZ {s:ByteArray}{Lv:List Int}{i k:Nat}(h:k<(iU s i).length):nth (AU s Lv i) k=nth Lv (fX (iU s i) k):=by simp[nth,AU,fX,h]
theorem YU {s:ByteArray}{W:List Int}{i:Nat}(h:A5 s i=true):wl s W (i+1)=(wl s W i++[0]).set (wl s W i).length (0+nth W i):=by
 rw[wl,ay h,eE _ _ (ak _),bY,List.set_cons_zero,Int.zero_add]
theorem acm {s:ByteArray}{W:List Int}{i:Nat}(h:A5 s i=false):wl s W (i+1)=(wl s W i).set ((wl s W i).length - 1) (nth (wl s W i) ((wl s W i).length - 1)+nth W i):=by
 rw[wl,au (by rw[h];exact aE)]
theorem Au {s:ByteArray}{n i:Nat}(hi:i<=n)(hn:0<n):(iU s i).length<(jw s n).length:=by
 obtain⟨d,rfl⟩:∃d,n=i+d:=⟨n - i,by omega⟩;have h:=(o9 s i d).length_le;rw[jw,au (by omega),aG];simp only[bO,List.length_nil];omega
theorem Vv {s:ByteArray}{i:Nat}(h:A5 s i=false):0<i:=by
 rcases aS i with h0 | h0
 ·rw[h0]at h;exact absurd h (by simp[A5])
 ·exact h0
theorem EO (s:ByteArray){i:Nat}(h:0<i):0<(iU s i).length:=(B9 s i).2 h
theorem RY {s:ByteArray}{n i:Nat}(h:gJ.Ends s n)(hn:0<n)(hi:i<n):(((gJ.pos s i:Nat):Int) == nth (bnd s n) (iU s i).length)=A5 s i:=by
 have hl:=Au (s:=s) (bZ hi) hn;rw[mJ h hl];cases hb:A5 s i
 ·have h2:=(Gy (s:=s) hi).2 hb
  have h3:fX (jw s n) (iU s i).length<=n:=by
   rcases aA (show(iU s i).length<=cn s n by unfold cn;omega)with h4 | h4
   ·have:=qT (kR s n) h4 (by unfold cn;omega);rw[kL]at this;omega
   ·rw[h4,kL];exact ak _
  have h5:=gJ.kY s _ _ h2;simp;omega
 ·rw[(Gy (s:=s) hi).1 hb];simp
end Go.Proofs.YtnakejhohdbfdaaGreatDoor

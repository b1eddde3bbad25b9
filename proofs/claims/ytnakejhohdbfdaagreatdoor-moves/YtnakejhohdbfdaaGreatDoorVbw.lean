import Derived.Test.YtnakejhohdbfdaaGreatDoorVbu
import Derived.Test.YtnakejhohdbfdaaGreatDoorVbv
import Derived.Test.YtnakejhohdbfdaaGreatDoorCards
import Derived.Test.YtnakejhohdbfdaaGreatDoorTie
import Derived.Deep.DeepHandedRow
import Derived.LaidHandle
import Derived.Carry
import Derived.Lib.SmallJoins
import Derived.ChangeSlices
set_option maxHeartbeats 4000000
set_option maxRecDepth 100000
namespace Go.Proofs.YtnakejhohdbfdaaGreatDoor
open Go.RowKit jN Lay uS Go.Proofs.Tryz
def Ox (a b:Int × Bool):Bool:=!(decide (a.1=b.1/\a.2=b.2))
theorem zO {a b:Int × Bool}(h:a≠b):Ox a b=true:=by
 unfold Ox;simp only[Bool.not_eq_true',cN];exact fun e=>h (Prod.ext e.1 e.2)
theorem Dt (a:Int × Bool):Ox a a=false:=by simp[Ox]
theorem Od {Bd:List Int}{z:Int}(h:jf Bd z)(off:Int)(back:Bool):tN Bd Bd.length (fY Bd z off back).1 (fY Bd z off back).2 Bd.length=fY Bd z (nth Bd (near ((cidx Bd (fY Bd z off back).1:Int)+1) ((Bd.length:Int) - 1)).toNat) true:=by
 obtain⟨c,hc,e1,e2⟩:=Ds h off back;rw[e2];dsimp only;rw[vG h hc,Zr h hc];by_cases h1:c+1<Bd.length
 ·have hn:(near ((c:Int)+1) ((Bd.length:Int) - 1)).toNat=c+1:=by unfold near;split <;> (try split) <;> omega
  rw[ay h1,hn,lJ h h1];simp
 ·have hn:(near ((c:Int)+1) ((Bd.length:Int) - 1)).toNat=c:=by unfold near;split <;> (try split) <;> omega
  rw[au h1,hn,lJ h hc,ay (show c=Bd.length - 1 by omega),ay (show c=Bd.length - 1 by omega)]
theorem Oe {Bd:List Int}{z:Int}(h:jf Bd z)(off:Int)(back:Bool):tP Bd (fY Bd z off back).1 (fY Bd z off back).2 Bd.length=fY Bd z (nth Bd (near ((cidx Bd (fY Bd z off back).1:Int) - 1) ((Bd.length:Int) - 1)).toNat) false:=by
 obtain⟨c,hc,e1,e2⟩:=Ds h off back;rw[e2];dsimp only;rw[vG h hc,Zs h hc];by_cases h1:c=0
 ·have hn:(near ((c:Int) - 1) ((Bd.length:Int) - 1)).toNat=c:=by unfold near;split <;> (try split) <;> omega
  rw[ay h1,hn,lJ h hc,ay h1,ay h1]
 ·have hn:(near ((c:Int) - 1) ((Bd.length:Int) - 1)).toNat=c - 1:=by unfold near;split <;> (try split) <;> omega
  rw[au h1,hn,lJ h (by omega),au (show ¬c - 1=Bd.length - 1 by omega)];simp
theorem yJ {Bd V:List Int}{z:Int}{Ls:List Ln}(F:vK Bd V z Ls)(h0:0<V.length)(off:Int)(back:Bool){l k:Int}(hl:0<=l/\l<(Ls.length:Int))(hk:0<=k/\k<=((ji Ls l.toNat).o.length:Int))(hne:l≠((mY Bd V z Ls off back).1:Nat)\/k≠((mY Bd V z Ls off back).2:Nat)):iM Bd V Ls l k≠fY Bd z off back:=by
 obtain⟨i,rfl⟩:∃i:Nat,l=(i:Int):=⟨l.toNat,by omega⟩;obtain⟨j,rfl⟩:∃j:Nat,k=(j:Int):=⟨k.toNat,by omega⟩;rw[cH]at hk;refine Kk F h0 (by omega) (by omega) off back (fun e=>?_);rw[<-e]at hne
 rcases hne with h | h <;> exact h rfl
theorem S7 {Bd V:List Int}{z:Int}{Ls:List Ln}(F:vK Bd V z Ls)(T:xy Bd V Ls)(h0:0<V.length)(off goal:Int)(back:Bool){l:Int}(hl:0<=l/\l<(Ls.length:Int))(hne:l≠((mY Bd V z Ls off back).1:Nat)):qE Bd V Ls l goal≠fY Bd z off back:=by
 have hn:near l ((Ls.length:Int) - 1)=l:=by unfold near;split <;> (try split) <;> omega
 unfold qE;dsimp only;rw[hn];have hm:ji Ls l.toNat∈Ls:=kE (by omega);have hx:=T.xl _ hm;have hb:=r6 (ji Ls l.toNat).x goal (ji Ls l.toNat).x.length (by omega);exact yJ F h0 off back hl (by omega) (.inl hne)
theorem Of (WB:World)(U P:Nat)(s:ByteArray)(bs r:Int)(vC vM:Value)(Bd V X:List Int)(Ls:List Ln)(hm:List Value)(n:Nat)(d off goal:Int)(back:Bool)(w:World)(h:LD WB w U P s bs vC vM (NF Bd V X V.length) Ls hm)(hs:s.size<=1000000)(hT:Floor w)(hend:gJ.Ends s n)(hB:Bd=bnd s n)(F:vK Bd V (s.size:Nat) Ls)(T:xy Bd V Ls)(hbs:bs=0\/bs=1)(hr:r=1 - 2 * bs)(hv4:V.length<=400)(yu:0<Ls.length)(hK:Ls.length<=400)(hlo:∀l∈Ls,l.o.length<=1000)(hV1:V.length=0->Ls.length=1)(hx:-9223372036854775808<=goal/\goal<=9223372036854775807)(R:Int × Bool)(hR:R=Ob Bd V (s.size:Nat) r Ls d off goal back) :
 Calls prog 28 #[.pointer (some ⟨P,0,none⟩),.int .i64 d,.agg #[.int .i64 off,.bool back],.int .i64 goal] w fun e w'=>e=.returned (.tuple #[.agg #[.int .i64 R.1,.bool R.2],.bool (Ox R (fY Bd (s.size:Nat) off back))])/\Fr [] w w':=by
 have hbd:=F.bd;have hp:∀o b Y,Fr [] w Y->Calls prog 18 #[.pointer (some ⟨P,0,none⟩),.agg #[.int .i64 o,.bool b]] Y fun e w'=>e=.returned (.agg #[.int .i64 (fY Bd (s.size:Nat) o b).1,.bool (fY Bd (s.size:Nat) o b).2])/\Fr [] Y w':=fun o b Y hf=>by
  rw[hB];exact xA WB U P s bs vC vM _ Ls hm n o b Y (h.iS hf) hs (hT.fr hf) hend
 have hg:oP 20 P off back (.agg #[.int .i64 ((mY Bd V (s.size:Nat) Ls off back).1:Nat),.int .i64 ((mY Bd V (s.size:Nat) Ls off back).2:Nat)]) w:=fun Y hf=>S4 WB U P s bs vC vM Bd V X Ls hm n off back Y (h.iS hf) hs (hT.fr hf) hend hB F T hv4 yu hK hlo
 have hb:∀Y,Fr [] w Y->Calls prog 66 #[.string s] Y fun e w'=>∃gB cB,e=.returned (.slice (some ⟨gB,0,none⟩) Bd.length cB)/\rowAt w' gB Bd.length Bd/\Y.heap.size<=gB/\Fr [] Y w':=fun Y hf=>by
  rw[hB];exact Oa s n Y hs (hT.fr hf) hend
 have hn:∀line gap Y,Fr [] w Y->Calls prog 24 #[.pointer (some ⟨P,0,none⟩),.agg #[.int .i64 line,.int .i64 gap]] Y fun e w'=>e=.returned (.agg #[.int .i64 (iM Bd V Ls line gap).1,.bool (iM Bd V Ls line gap).2])/\Fr [] Y w':=fun line gap Y hf=>EU WB U P s bs vC vM Bd V X Ls hm line gap Y (h.iS hf) T hv4 yu hK hlo
 have hh:∀line Y,Fr [] w Y->Calls prog 26 #[.pointer (some ⟨P,0,none⟩),.int .i64 line,.int .i64 goal] Y fun e w'=>e=.returned (.agg #[.int .i64 (qE Bd V Ls line goal).1,.bool (qE Bd V Ls line goal).2])/\Fr [] Y w':=fun line Y hf=>SI WB U P s bs vC vM Bd V X Ls hm line goal Y (h.iS hf) T hv4 yu hK hlo hx
 obtain⟨hi,hk⟩:=F.S5 yu off back;have hnil:V.length=0->mY Bd V (s.size:Nat) Ls off back=(0,0):=fun h0=>by unfold mY;rw[ay h0]
 have hno:V.length=0->∀i,i<Ls.length->(ji Ls i).o.length=0:=fun h0 i hi=>by
  cases ho:(ji Ls i).o with
  | nil=>rfl
  | cons a l=>exact absurd (T.ob _ (kE hi) a (by rw[ho];exact bA ..)) (by omega)
 obtain⟨gL,cL,qw⟩:=fR yu h.qa;subst qw;unfold Ob at hR;dsimp only at hR;generalize hgg:mY Bd V (s.size:Nat) Ls off back=g at *;obtain⟨g1,g2⟩:=g;dsimp only at *;by_cases h0:d=0
 ·subst h0
  rw[ay rfl]at hR;refine Zk P g1 g2 Bd.length Bd _ _ _ off goal _ back _ s _ vC _ w h.obj (hp off back) hg hb (fun Y hf=>?_);have e:(R,Ox R (fY Bd (s.size:Nat) off back))=if 0<g2 then(iM Bd V Ls (g1:Nat) ((g2:Int) - 1),true)else if 0<=(g1:Int) - r/\(g1:Int) - r<(Ls.length:Int)then(iM Bd V Ls ((g1:Int) - r) ((ji Ls ((g1:Int) - r).toNat).o.length:Nat),true)else(((fY Bd (s.size:Nat) off back).1,(fY Bd (s.size:Nat) off back).2),false):=by
   rw[hR];by_cases c1:0<g2
   ·have hV:0<V.length:=by
     rcases aS V.length with hv | hv
     ·have:=hnil hv
      simp at this;omega
     ·exact hv
    rw[ay c1,ay c1,zO (yJ F hV off back (by omega) (by rw[cH];omega) (.inr (by rw[hgg];dsimp only;omega)))]
   ·rw[au c1,au c1]
    by_cases c2:0<=(g1:Int) - r/\(g1:Int) - r<(Ls.length:Int)
    ·have hV:0<V.length:=by
      rcases aS V.length with hv | hv
      ·have:=hV1 hv
       omega
      ·exact hv
     rw[ay c2,ay c2,zO (yJ F hV off back c2 (by omega) (.inl (by rw[hgg];dsimp only;omega)))]
    ·rw[au c2,au c2,Dt]
  exact N_ WB U P s bs r vC _ _ Bd V Ls hm off _ back _ g1 g2 Y (h.iS hf) hbs hr hi hk hK hlo (fun Y2 hf2=>hg Y2 (hf.trans hf2)) (fun l g Y2 hf2=>hn l g Y2 (hf.trans hf2)) (fun Y2 hf2=>hp off back Y2 (hf.trans hf2)) (R,Ox R (fY Bd (s.size:Nat) off back)) e
 rw[au h0]at hR;by_cases h1:d=1
 ·subst h1
  rw[ay rfl]at hR;refine Zm P g1 g2 Bd.length Bd _ _ _ off goal _ back _ s _ vC _ w h.obj (hp off back) hg hb (fun Y hf=>?_);have e:(R,Ox R (fY Bd (s.size:Nat) off back))=if g2<(ji Ls g1).o.length then(iM Bd V Ls (g1:Nat) ((g2:Int)+1),true)else if 0<=(g1:Int)+r/\(g1:Int)+r<(Ls.length:Int)then(iM Bd V Ls ((g1:Int)+r) 0,true)else(((fY Bd (s.size:Nat) off back).1,(fY Bd (s.size:Nat) off back).2),false):=by
   rw[hR];by_cases c1:g2<(ji Ls g1).o.length
   ·have hV:0<V.length:=by
     rcases aS V.length with hv | hv
     ·have:=hno hv g1 hi
      omega
     ·exact hv
    rw[ay c1,ay c1,zO (yJ F hV off back (by omega) (by rw[cH];omega) (.inr (by rw[hgg];dsimp only;omega)))]
   ·rw[au c1,au c1]
    by_cases c2:0<=(g1:Int)+r/\(g1:Int)+r<(Ls.length:Int)
    ·have hV:0<V.length:=by
      rcases aS V.length with hv | hv
      ·have:=hV1 hv
       omega
      ·exact hv
     rw[ay c2,ay c2,zO (yJ F hV off back c2 (by omega) (.inl (by rw[hgg];dsimp only;omega)))]
    ·rw[au c2,au c2,Dt]
  exact N9 WB U P s bs r vC _ _ Bd V Ls hm off _ back _ g1 g2 Y (h.iS hf) hbs hr hi hk hK hlo (fun Y2 hf2=>hg Y2 (hf.trans hf2)) (fun l g Y2 hf2=>hn l g Y2 (hf.trans hf2)) (fun Y2 hf2=>hp off back Y2 (hf.trans hf2)) (R,Ox R (fY Bd (s.size:Nat) off back)) e
 rw[au h1]at hR;by_cases h2:d=2
 ·subst h2
  rw[ay rfl]at hR;exact Zv P g1 g2 Bd.length Bd _ _ _ off goal _ back _ s _ vC _ w h.obj (hp off back) hg hb (by omega) rfl (by rw[hR];exact Od F.rs off back)
 rw[au h2]at hR;by_cases h3:d=3
 ·subst h3
  rw[ay rfl]at hR;exact Zw P g1 g2 Bd.length Bd _ _ _ off goal _ back _ s _ vC _ w h.obj (hp off back) hg hb (by omega) rfl (by rw[hR];exact Oe F.rs off back)
 rw[au h3]at hR;obtain⟨vO,vX,a1,a2,_⟩:=h.Du g1 _ (mL hi);by_cases h4:d=4
 ·subst h4
  rw[ay rfl]at hR;subst hR;exact Zn P g1 g2 Bd.length Bd gL cL Ls.length (ji Ls g1).f _ _ _ off goal _ back _ s _ vC _ w h.obj (hp off back) hg hb rfl hi (by rw[h.qa.cellAt _ (by omega)];exact a1) rfl (hp _ _)
 rw[au h4]at hR;by_cases h5:d=5
 ·subst h5
  rw[ay rfl]at hR;subst hR;exact Zp P g1 g2 Bd.length Bd gL cL Ls.length (ji Ls g1).t _ _ _ off goal _ back _ s _ vC _ w h.obj (hp off back) hg hb rfl hi (by rw[h.qa.cellAt _ (by omega)];exact a2) rfl (hp _ _)
 rw[au h5]at hR;have hVp:1<Ls.length->0<V.length:=fun hl=>by
  rcases aS V.length with hv | hv
  ·have:=hV1 hv
   omega
  ·exact hv
 by_cases h6:d=6
 ·subst h6
  rw[ay rfl]at hR;by_cases c:0<=(g1:Int)+-1/\(g1:Int)+-1<(Ls.length:Int)
  ·rw[ay c]at hR
   rw[hR,zO (S7 F T (hVp (by omega)) off goal back c (by rw[hgg];dsimp only;omega))];exact We P g1 g2 Bd.length Bd gL cL Ls.length _ _ off goal _ back _ s _ vC _ w h.obj (hp off back) hg hb rfl hi hK (by omega) (fun Y hf=>hh _ Y hf)
  ·rw[au c]at hR
   rw[hR,Dt];exact Wf P g1 g2 Bd.length Bd gL cL Ls.length off goal _ back _ s _ vC _ w h.obj (hp off back) hg hb rfl hi hK (by omega)
 rw[au h6]at hR;by_cases h7:d=7
 ·subst h7
  rw[ay rfl]at hR;by_cases c:0<=(g1:Int)+1/\(g1:Int)+1<(Ls.length:Int)
  ·rw[ay c]at hR
   rw[hR,zO (S7 F T (hVp (by omega)) off goal back c (by rw[hgg];dsimp only;omega))];exact Wg P g1 g2 Bd.length Bd gL cL Ls.length _ _ off goal _ back _ s _ vC _ w h.obj (hp off back) hg hb rfl hi hK (by omega) (fun Y hf=>hh _ Y hf)
  ·rw[au c]at hR
   rw[hR,Dt];exact Wh P g1 g2 Bd.length Bd gL cL Ls.length off goal _ back _ s _ vC _ w h.obj (hp off back) hg hb rfl hi hK (by omega)
 rw[au h7]at hR;rw[hR,Dt];exact Zq P g1 g2 Bd.length Bd d off goal _ back _ s _ vC _ w h.obj (hp off back) hg hb (by omega)
theorem Wi (s:ByteArray)(b:Int)(W Br:List Int)(n:Nat)(hend:gJ.Ends s n)(hBl:Br.length<=5000)(hck:tu s n (iY s n) b W Br=0):∃Bd V X r bs Cs Ls,Twin s b W Br Bd V X r bs Cs Ls/\xy Bd V Ls/\vK Bd V (s.size:Nat) Ls/\Bd=bnd s n/\r=1 - 2 * bs/\(bs=0\/bs=1)/\(V.length=0->Ls.length=1):=by
 obtain⟨hs,hb⟩:=EQ hck;obtain⟨_,_,hbr⟩:=r5 hend hs hb hck;by_cases hn:0<n
 ·obtain⟨Bd,V,X,r,bs,Cs,Ls,T,TT,F,hB,hr,hbs⟩:=SO s b W Br n hend hBl hck
  refine⟨Bd,V,X,r,bs,Cs,Ls,T,TT,F,hB,hr,hbs,fun h0=>?_⟩;have h1:=F.bd;have h2:=(jk s n).2.2 hn;rw[hB,j5 hend]at h1;omega
 ·obtain rfl:n=0:=by omega
  have hs0:s.size=0:=hend.1.symm;have J9:=FQ hs0 hbr;subst J9;refine⟨[0],[],[],1 - 2 * gS [] b,gS [] b,[],[NI],?_,H_,by rw[hs0];exact Ih,by simp[bnd,hs0,kF],rfl,mK hb,fun _=>rfl⟩
  exact {
   vx:=rfl
   bd:=rfl
   vl:=by decide
   cs:=rfl
   l0:=by decide
   l1:=by decide
   ll:=fun l hl=>by rw[aj.1 hl];decide
   p:=fun w vW vB hF h1 h2=>Hy s b vW vB W [] w hs0 hb hF h1 h2 hck
   d:=fun w vW vB hF h1 h2=>by
    obtain⟨aB,cB,rfl,_⟩:=h2
    exact Hz s b vW aB cB w hs0 hb hF.u }
theorem Km (s:ByteArray)(b:Int)(vW vB:Value)(W Br:List Int)(n:Nat)(off Ik x:Int)(back:Bool)(w:World)(hF:Floor w)(hend:gJ.Ends s n)(hW:mT w vW W)(hB:mT w vB Br)(hs:s.size<=4096)(tJ:W.length<=4096)(hBl:Br.length<=4096)(hx:-9223372036854775808<=x/\x<=9223372036854775807)(hck:tu s n (iY s n) b W Br=0) :
 Calls prog 7 #[.agg #[.string s,.int .i64 b,vW,vB],.agg #[.int .i64 off,.bool back],.int .i64 Ik,.int .i64 x] w fun e w'=>e=.returned (.bool true)/\Fr [] w w':=by
 obtain⟨Bd,V,X,r,bs,Cs,Ls,T,TT,F,hBd,hr,hbs,hV1⟩:=Wi s b W Br n hend (by omega) hck;obtain⟨aW,xG,rfl,_⟩:=id hW;obtain⟨aB,cB0,rfl,_⟩:=id hB;obtain⟨wb,hwb⟩:∃wb,wb=(w.alloc (.cells #[.string s,.int .i64 b,.slice aW W.length xG,.slice aB Br.length cB0] 35)).alloc (.cells #[.int .i64 off,.bool back] 55):=⟨_,rfl⟩;have nD:=hid (show Fr [] w wb by rw[hwb];exact((Fr.refl [] w).alloc _).alloc _);have Lg:=hid (show wb.heap[w.heap.size]?=some (.cells #[.string s,.int .i64 b,.slice aW W.length xG,.slice aB Br.length cB0] 35 (0,0)) by rw[hwb];exact fO (fU w _) ((Fr.refl [] _).alloc _) af)
 have HOc:=hid (show wb.heap[w.heap.size+1]?=some (.cells #[.int .i64 off,.bool back] 55 (0,0)) by
  have hs:(w.alloc (.cells #[.string s,.int .i64 b,.slice aW W.length xG,.slice aB Br.length cB0] 35)).heap.size=w.heap.size+1:=by simp
  have h0:=fU (w.alloc (.cells #[.string s,.int .i64 b,.slice aW W.length xG,.slice aB Br.length cB0] 35)) (.cells #[.int .i64 off,.bool back] 55)
  rw[hs]at h0
  rw[hwb];exact h0)
 have Xg:=hid (Lf s b aW aB W.length xG Br.length cB0 wb hs tJ hBl);have H14:=hid (fun(Y:World) (hf:Fr [] w Y)=>NQ s b _ _ W Br n Y (hF.fr hf) hend (hW.fr hf) (hB.fr hf) (by omega) (by omega) hck Bd V X r bs Cs Ls T);have HP:=hid (fun(B P:Nat) (v0 v1 v2 vL:Value) (hs:List Value) (d:Int) (Y:World) (h:LP Y B P Bd V X r Ls v0 v1 v2 vL hs)=>Oc B P Bd V X r (s.size:Nat) Ls v0 v1 v2 vL hs d off x back Y h F (by omega) TT (by omega) T.vl T.l0 T.l1 (fun l hl=>(T.ll l hl).1) _ rfl);have HD:=hid (fun(WB:World) (U lb:Nat) (vC vM:Value) (hm:List Value) (d:Int) (Y:World) (h:LD WB Y U lb s bs vC vM Cs Ls hm) (hf:Fr [] w Y)=>Of WB U lb s bs r vC vM Bd V X Ls hm n d off x back Y (by rw[T.cs];exact h) (by omega) (hF.fr hf) hend hBd F TT hbs hr T.vl T.l0 T.l1 (fun l hl=>(T.ll l hl).1) hV1 hx _ rfl);generalize W.length=nW at *;generalize Br.length=nB at *;clear hW hB hF hend hck T TT hx F hBd hr hbs hV1;go_enter func7,ntmps7;go_wp2_with fail;rw[<-hwb];clear hwb;refine Xg.out.mono ?_;rintro e w1 ⟨rfl,hf1⟩;have iy:=hid (nD.out.trans hf1);have kT:=hid (fO Lg.out hf1 af);have UU:=hid (fO HOc.out hf1 af);have l0:=fN kT.out (i:=0) (v:=.string s) rfl;have l1:=fN kT.out (i:=1) (v:=.int .i64 b) rfl;have l2:=fN kT.out (i:=2) (v:=.slice aW nW xG) rfl;have l3:=fN kT.out (i:=3) (v:=.slice aB nB cB0) rfl;have S8:=hid (H14.out w1 iy.out);clear hf1 Xg H14;go_wp2_with fail;refine S8.out.mono ?_;rintro e w2 ⟨Q,lb,rfl,hPP,hDD,hf2⟩;obtain⟨P,B,v0,v1,v2,vL,hs0,hQ,hLP⟩:=hPP.out;obtain⟨WB,vC,vM,hm,hLD⟩:=hDD.out;have f_:=hid (iy.out.trans hf2);have AK:=hid (fO UU.out hf2 af);have Qf:=hid (fun(d:Int) (Y:World) (hf:Fr [] w2 Y)=>N8 Q P d off x (Ob Bd V (s.size:Nat) r Ls d off x back).1 back (Ob Bd V (s.size:Nat) r Ls d off x back).2 (Ox (Ob Bd V (s.size:Nat) r Ls d off x back) (fY Bd (s.size:Nat) off back)) Y (fN (fO hQ hf af) (i:=0) rfl) (fun Z hz=>HP.out B P v0 v1 v2 vL hs0 d Z (hLP.fr (hf.trans hz) (fun k hk=>absurd hk af))));have Ov:=hid (fun(d:Int) (Y:World) (hf:Fr [] w2 Y)=>HD.out WB w2.heap.size lb vC vM hm d Y (hLD.iS hf) (f_.out.trans hf));clear hPP hDD hf2 hQ hLP hLD S8 l0 l1 l2 l3 HP HD;go_wp2_with fail;go_loopw [13] (fun a wr=>∃k:Nat,a=.int .i64 ((k:Int) - 1)/\k<=13/\Hid (Fr [] w2 wr)) (fun a _=>13 - (intOf a+1).toNat)
 case atStart=>exact⟨0,rfl,by omega,hid (Fr.refl _ _)⟩
 case round =>
  obtain⟨k,rfl,hk,HR⟩:=hrel;obtain⟨ln,hln⟩:∃ln,ln=(k:Int) - 1:=⟨_,rfl⟩;have sZ:=hid hln;rw[<-hln];by_cases hlt:k<13
  ·have ac9:ln<12:=by omega
   have hwl:IntKind.i64.wrap (ln+1)=ln+1:=by rw[eT];omega
   by_cases hneg:ln<0
   ·clear hln
    have H27:=hid (Qf.out (Ik) wr HR.out);have H28:=hid (fun(Y:World) (hf:Fr [] wr Y)=>Ov.out (Ik) Y (HR.out.trans hf));generalize Ox (Ob Bd V (s.size:Nat) r Ls (Ik) off x back) (fY Bd (s.size:Nat) off back)=mm at *;generalize (Ob Bd V (s.size:Nat) r Ls (Ik) off x back).1=ya at *;generalize (Ob Bd V (s.size:Nat) r Ls (Ik) off x back).2=yb at *;have Wj:=hid (fO AK.out HR.out af);have s0:=fN Wj.out (i:=0) (v:=.int .i64 off) rfl;have s1:=fN Wj.out (i:=1) (v:=.bool back) rfl;go_wp2_with fail;refine H27.out.mono ?_;rintro e w3 ⟨rfl,hf3⟩;have FT:=hid (show Fr [] wr (w3.alloc (.cells #[.int .i64 ya,.bool yb] 55))from hf3.alloc _);have S9:=hid (H28.out _ FT.out);have k9:=hid (fU w3 (.cells #[.int .i64 ya,.bool yb] 55));clear s0 s1;have s0:=fN (fO Wj.out FT.out af) (i:=0) (v:=.int .i64 off) rfl;have s1:=fN (fO Wj.out FT.out af) (i:=1) (v:=.bool back) rfl;clear hf3 H27;go_wp2_with fail;refine S9.out.mono ?_;rintro e w4 ⟨rfl,jl⟩;have gP:=hid (FT.out.trans jl);have S_:=hid (fO k9.out jl af);have Ta:=hid (fO S_.out ((Fr.refl [] w4).alloc (.cells #[.int .i64 ya,.bool yb] 55)) af);have y0:=fN Ta.out (i:=0) (v:=.int .i64 ya) rfl;have y1:=fN Ta.out (i:=1) (v:=.bool yb) rfl;have hl4:=h_ S_.out;clear jl S9 s0 s1;go_wp2_with fail;go_roundw
    case rel=>exact⟨k+1,by rw[sZ.out];simp,by omega,hid (by repeat(first | exact HR.out.trans gP.out | refine Fr.drewN ?_ _ | refine Fr.drew ?_ | refine Fr.alloc ?_ _))⟩
    case measure=>have h9:=sZ.out;simp only[intOf];omega
   ·have aiW:decide (ln<0)=false:=by simpa using hneg
    clear hln;have H27:=hid (Qf.out (ln) wr HR.out);have H28:=hid (fun(Y:World) (hf:Fr [] wr Y)=>Ov.out (ln) Y (HR.out.trans hf));generalize Ox (Ob Bd V (s.size:Nat) r Ls (ln) off x back) (fY Bd (s.size:Nat) off back)=mm at *;generalize (Ob Bd V (s.size:Nat) r Ls (ln) off x back).1=ya at *;generalize (Ob Bd V (s.size:Nat) r Ls (ln) off x back).2=yb at *;have Wj:=hid (fO AK.out HR.out af);have s0:=fN Wj.out (i:=0) (v:=.int .i64 off) rfl;have s1:=fN Wj.out (i:=1) (v:=.bool back) rfl;go_wp2_with fail;refine H27.out.mono ?_;rintro e w3 ⟨rfl,hf3⟩;have FT:=hid (show Fr [] wr (w3.alloc (.cells #[.int .i64 ya,.bool yb] 55))from hf3.alloc _);have S9:=hid (H28.out _ FT.out);have k9:=hid (fU w3 (.cells #[.int .i64 ya,.bool yb] 55));clear s0 s1;have s0:=fN (fO Wj.out FT.out af) (i:=0) (v:=.int .i64 off) rfl;have s1:=fN (fO Wj.out FT.out af) (i:=1) (v:=.bool back) rfl;clear hf3 H27;go_wp2_with fail;refine S9.out.mono ?_;rintro e w4 ⟨rfl,jl⟩;have gP:=hid (FT.out.trans jl);have S_:=hid (fO k9.out jl af);have Ta:=hid (fO S_.out ((Fr.refl [] w4).alloc (.cells #[.int .i64 ya,.bool yb] 55)) af);have y0:=fN Ta.out (i:=0) (v:=.int .i64 ya) rfl;have y1:=fN Ta.out (i:=1) (v:=.bool yb) rfl;have hl4:=h_ S_.out;clear jl S9 s0 s1;go_wp2_with fail;go_roundw
    case rel=>exact⟨k+1,by rw[sZ.out];simp,by omega,hid (by repeat(first | exact HR.out.trans gP.out | refine Fr.drewN ?_ _ | refine Fr.drew ?_ | refine Fr.alloc ?_ _))⟩
    case measure=>simp[intOf];omega
  ·have ac9:¬ln<12:=by omega
   have aiX:decide (ln<12)=false:=by simpa using ac9
   clear hln;go_wp2_with fail;go_ret;exact⟨rfl,f_.out.trans HR.out⟩
theorem Og (s:ByteArray)(b:Int)(aW aB:Option Addr)(nW cW nB cB:Nat)(off Ik x:Int)(back:Bool)(w:World)(h:¬(s.size<=4096/\nW<=4096/\nB<=4096)) :
 Calls prog 7 #[.agg #[.string s,.int .i64 b,.slice aW nW cW,.slice aB nB cB],.agg #[.int .i64 off,.bool back],.int .i64 Ik,.int .i64 x] w fun e w'=>e=.returned (.bool true)/\Fr [] w w':=by
 have nD:=hid (show Fr [] w ((w.alloc (.cells #[.string s,.int .i64 b,.slice aW nW cW,.slice aB nB cB] 35)).alloc (.cells #[.int .i64 off,.bool back] 55))from((Fr.refl [] w).alloc _).alloc _);have Xg:=hid (Y6 s b aW aB nW cW nB cB ((w.alloc (.cells #[.string s,.int .i64 b,.slice aW nW cW,.slice aB nB cB] 35)).alloc (.cells #[.int .i64 off,.bool back] 55)) h);clear h;go_enter func7,ntmps7;go_wp2_with fail;refine Xg.out.mono ?_;rintro e w1 ⟨rfl,hf1⟩;have iy:=hid (nD.out.trans hf1);clear hf1 Xg;go_wp2_with fail;go_ret;exact⟨rfl,iy.out⟩
theorem Oh (s:ByteArray)(b:Int)(vW vB:Value)(W Br:List Int)(n:Nat)(off Ik x:Int)(back:Bool)(w:World)(hF:Floor w)(hend:gJ.Ends s n)(hW:mT w vW W)(hB:mT w vB Br)(hs:s.size<=4096)(tJ:W.length<=4096)(hBl:Br.length<=4096)(hck:tu s n (iY s n) b W Br≠0) :
 Calls prog 7 #[.agg #[.string s,.int .i64 b,vW,vB],.agg #[.int .i64 off,.bool back],.int .i64 Ik,.int .i64 x] w fun e w'=>e=.returned (.bool true)/\Fr [] w w':=by
 obtain⟨aW,xG,rfl,_⟩:=id hW;obtain⟨aB,cB0,rfl,_⟩:=id hB;obtain⟨wb,hwb⟩:∃wb,wb=(w.alloc (.cells #[.string s,.int .i64 b,.slice aW W.length xG,.slice aB Br.length cB0] 35)).alloc (.cells #[.int .i64 off,.bool back] 55):=⟨_,rfl⟩;have nD:=hid (show Fr [] w wb by rw[hwb];exact((Fr.refl [] w).alloc _).alloc _);have Lg:=hid (show wb.heap[w.heap.size]?=some (.cells #[.string s,.int .i64 b,.slice aW W.length xG,.slice aB Br.length cB0] 35 (0,0)) by rw[hwb];exact fO (fU w _) ((Fr.refl [] _).alloc _) af);have Xg:=hid (Lf s b aW aB W.length xG Br.length cB0 wb hs tJ hBl);have H14:=hid (fun(Y:World) (hf:Fr [] w Y)=>SJ s b _ _ W Br n Y (hF.fr hf) hend (hW.fr hf) (hB.fr hf) (by omega) (by omega) hck);generalize W.length=nW at *;generalize Br.length=nB at *;clear hW hB hF hend hck;go_enter func7,ntmps7;go_wp2_with fail;rw[<-hwb];clear hwb;refine Xg.out.mono ?_;rintro e w1 ⟨rfl,hf1⟩;have iy:=hid (nD.out.trans hf1);have kT:=hid (fO Lg.out hf1 af);have l0:=fN kT.out (i:=0) (v:=.string s) rfl;have l1:=fN kT.out (i:=1) (v:=.int .i64 b) rfl;have l2:=fN kT.out (i:=2) (v:=.slice aW nW xG) rfl;have l3:=fN kT.out (i:=3) (v:=.slice aB nB cB0) rfl;have S8:=hid (H14.out w1 iy.out);clear hf1 Xg H14;go_wp2_with fail;refine S8.out.mono ?_;rintro e w2 ⟨rfl,hf2⟩;have f_:=hid (iy.out.trans hf2);clear hf2 S8;go_wp2_with fail;go_ret;exact⟨rfl,f_.out⟩
theorem Oi (s:ByteArray)(b:Int)(vW vB:Value)(W Br:List Int)(off Ik x:Int)(back:Bool)(w:World)(hF:Floor w)(hW:mT w vW W)(hB:mT w vB Br)(hx:-9223372036854775808<=x/\x<=9223372036854775807) :
 Calls prog 7 #[.agg #[.string s,.int .i64 b,vW,vB],.agg #[.int .i64 off,.bool back],.int .i64 Ik,.int .i64 x] w fun e w'=>e=.returned (.bool true)/\Fr [] w w':=by
 by_cases h:s.size<=4096/\W.length<=4096/\Br.length<=4096
 ·obtain⟨n,hend⟩:=mE.runs s
  by_cases hck:tu s n (iY s n) b W Br=0
  ·exact Km s b vW vB W Br n off Ik x back w hF hend hW hB h.1 h.2.1 h.2.2 hx hck
  ·exact Oh s b vW vB W Br n off Ik x back w hF hend hW hB h.1 h.2.1 h.2.2 hck
 ·obtain⟨aW,cW,rfl,_⟩:=hW
  obtain⟨aB,cB,rfl,_⟩:=hB;exact Og s b aW aB _ cW _ cB off Ik x back w h
end Go.Proofs.YtnakejhohdbfdaaGreatDoor
namespace Go.Proofs.YtnakejhohdbfdaaGreatDoor.mE
open Go.RowKit iK Go.Proofs.Tryz
theorem Zx:(Tryz.prog.globals[9]?).map (·.type)=some 329:=by kernel_rfl
theorem Wk:Tryz.prog.cellsOf 328=3:=by kernel_rfl
theorem Wl:Tryz.prog.cellsOf 305=1:=by kernel_rfl
theorem Oj:(Rows.laid_caret_runes_kinds:DataW Unit)=.agg (gD.map rowData):=by kernel_rfl
theorem D3 {W:World}{n:String}{rest:List (String × DataW Unit)}(h:laidMet prog ((n,Rows.laid_caret_runes_kinds) :: rest) W)(hn:Tryz.prog.globalNamed n=some 9):TabAt W 9 gD:=by
 rw[Oj]at h;exact qS hn Zx underlying329 underlying328 Wk rfl rfl rfl underlying21 underlying21 underlying305 uR uR Wl l9.symm h
end Go.Proofs.YtnakejhohdbfdaaGreatDoor.mE
namespace Go.Proofs.YtnakejhohdbfdaaGreatDoor.moves
open Go.ChangeShapes Go.WideShapes Go.ChangeAt Go.RowKit mE Go.Proofs.Tryz
open Go.ChangeMaps (open_string shut_string)
theorem own:ownKnob Tryz.prog.godebug=none:=by kernel_rfl
theorem et : Tryz.prog.globalNamed "errors.errorType" = some 0 := by kernel_rfl
theorem rt : (Tryz.prog.cutTypes.find? (·.1 == "internal/reflectlite.rtype")).map (·.2) = some 257 := by kernel_rfl
theorem Zy:((List.range 376).filter fun t=>Tryz.prog.rowNamed t [101,114,114,111,114])=[86]:=by kernel_rfl
theorem size:Tryz.prog.types.size=376:=by kernel_rfl
theorem laidOut:laidOutB prog=true:=by kernel_rfl
theorem ada:Go.Deep.oneCellFields prog (Tryz.prog.fieldsOf 35)=true:=by kernel_rfl
theorem Wm:Tryz.prog.cellsOf 35=4:=by kernel_rfl
theorem adb:Go.Deep.oneCellFields prog (Tryz.prog.fieldsOf 55)=true:=by kernel_rfl
theorem Wn:Tryz.prog.cellsOf 55=2:=by kernel_rfl
theorem cells3:Tryz.prog.cellsOf 3=1:=by kernel_rfl
theorem Zz:Tryz.prog.cellsOf 9=1:=by kernel_rfl
theorem Tb:Tryz.prog.cellsOf 364=1:=by kernel_rfl
theorem star : "*" ++ "errors.errorString" = "*errors.errorString" := by decide
theorem ZA (u : TypeId) (h : Tryz.prog.typeName? 3 u = some "*errors.errorString") : u = 344 :=
 typeName_ptr_named (nm := "errors.errorString") (by rw [star]; kernel_rfl) (by kernel_rfl) (by decide) u (by rw [star]; exact h)
theorem sent {W : World} {n : String} {text : List UInt8} {r : List (String × DataW Unit)} {g : Nat} (h : laidMet prog ((n, .iface "*errors.errorString" (.ptr (.agg [.lit (.string text)]))) :: r) W) (hg : Tryz.prog.globalNamed n = some g) (ht : (Tryz.prog.globals[g]?).map (·.type) = some 86) : s7 W g := by
 obtain⟨a,s,hv,_⟩:=laid_sentinel h hg ht underlying86 ZA underlying344 underlying364 rfl rfl underlying9 Tb Zz;exact⟨_,_,by simpa using World.var?_cell hg hv 0⟩
theorem parts {W : World} (h : laidMetH prog Rows.movesRow.laid W) : laidMet prog [("unicode/utf8.acceptRanges", Rows.laid_unicode_utf8_acceptRanges), ("caret/runes.lowClasses", Rows.laid_caret_runes_lowClasses), ("caret/runes.highClasses", Rows.laid_caret_runes_highClasses), ("caret/runes.kinds", Rows.laid_caret_runes_kinds), ("caret/setups.errCount", Rows.laid_caret_setups_errCount), ("caret/setups.errRange", Rows.laid_caret_setups_errRange), ("caret/setups.errPlace", Rows.laid_caret_setups_errPlace), ("caret/setups.errRising", Rows.laid_caret_setups_errRising), ("unicode/utf8.first", Rows.laid_unicode_utf8_first)] W /\ handlesMet prog [("errors.errorType", Rows.laid_errors_errorType)] W := h
theorem handle {W : World} (h : handlesMet prog [("errors.errorType", Rows.laid_errors_errorType)] W) : W.cell? ⟨0, 0, none⟩ = some (As.KU 86) := by
 obtain⟨name,u,ty,e1,e2,e3,e4,e5⟩:=h _ (aj.2 rfl);have en:name=[101,114,114,111,114]:=(bW e1).symm;subst en;obtain rfl:=bW (rt.symm.trans e2);have hm:ty∈(List.range 376).filter fun t=>Tryz.prog.rowNamed t [101,114,114,111,114]:=dK.2 ⟨bS.2 (by rw[<-size];exact e3),e4⟩
 rw[Zy]at hm;obtain rfl:=aj.1 hm;have hh:typeHandle prog 86=.pointer (some ⟨10,86,none⟩):=by kernel_rfl
 rw[hh]at e5;simpa using World.var?_cell et e5 0
theorem ground {W:World}(h:laidMetH prog Rows.movesRow.laid W):Floor W:=by
 obtain⟨h1,h2⟩:=parts h
 exact⟨utf8Tabs_of_reads Tryz.TR extra (Lib.laidMet.reads h1 (by rw[<-LY];exact .tail _ (.tail _ (.tail _ (.tail _ (.tail _ (.tail _ (.tail _ (.tail _ (.head _)))))))))) (Lib.laidMet.reads h1 (by rw[<-I_];exact .head _)),Gv h1.tail (by kernel_rfl),Fg h1.tail.tail (by kernel_rfl),D3 h1.tail.tail.tail (by kernel_rfl),handle h2,
  sent h1.tail.tail.tail.tail (by kernel_rfl) (by kernel_rfl),sent h1.tail.tail.tail.tail.tail (by kernel_rfl) (by kernel_rfl),sent h1.tail.tail.tail.tail.tail.tail (by kernel_rfl) (by kernel_rfl),sent h1.tail.tail.tail.tail.tail.tail.tail (by kernel_rfl) (by kernel_rfl)⟩
theorem Li {H:Type}{enc:TypeId × Value->H}{W:World}{sp:Nat->Bool}{held:Bool}{n:Nat}{v:Value}{y:DataW H × List MemPlace}(h:DataW.trod enc prog W 0 sp held n 22 [v]=some y):∃l,mT W v l:=by
 rcases open_ints underlying22 underlying3 cells3 h with⟨e,_⟩ | ⟨a,len,cap,zs,e,_,hlc,_,hz,_,hc,_⟩
 ·cases e
  exact⟨[],none,0,rfl,.inl ⟨rfl,rfl,rfl⟩⟩
 ·cases e
  have hlz:len<=zs.length:=by rw[hz];split <;> omega
  have hl:(zs.take len).length=len:=by simp;omega
  refine⟨zs.take len,some a,cap,by rw[hl],.inr ⟨a,rfl,fun i hi=>?_⟩⟩;rw[hl]at hi;rw[hc i (by omega)];simp[jN.nth,List.getD,hi]
theorem contract (H:Type)(enc:TypeId × Value->H)(W:World)(base:Nat)(args:Array Value)(ds gs:List (DataW H))(before:List MemPlace)
 (hval:∀(j:Nat) t v,Tryz.f7.params[j]?=some t->args[j]?=some v->Value.okWide prog W .any base t v)
 (hW:DataW.Whole enc prog Tryz.f7.params.toList Rows.movesSpec.vars false W args.toList ds gs before) (hL:laidMetH prog Rows.movesRow.laid W) :
 Calls prog 7 args W fun e W'=>∃v,e=.returned v/\Rows.movesSpec.post enc prog Tryz.f7 false true false false W args v W':=by
 have hW':=hW;obtain⟨p,q,XV,hV,rfl,hfz,hnd⟩:=hW;have hA:DataW.TrodAll enc prog W 0 (fun _=>true) true Tryz.f7.params.toList args.toList ds p:=XV;rw[Tryz.params7]at hA hval;obtain⟨v0,vs0,d0,ds0,p0,q0,hargs,rfl,rfl,h0,r0⟩:=trodAll_cons hA;obtain⟨u1,vs1,d1,ds1,p1,q1,rfl,rfl,rfl,h1,r1⟩:=trodAll_cons r0;obtain⟨u2,vs2,d2,ds2,p2,q2,rfl,rfl,rfl,h2,r2⟩:=trodAll_cons r1;obtain⟨u3,vs3,d3,ds3,p3,q3,rfl,rfl,rfl,h3,r3⟩:=trodAll_cons r2;obtain⟨rfl,rfl,rfl⟩:=trodAll_nil r3;obtain rfl:args=#[v0,u1,u2,u3]:=by cases args;simp_all
 obtain⟨rfl,rfl⟩:=trodVars_none hV;have h0k:=h0;obtain⟨x0,x1,x2,x3,y0,y1,y2,y3,n,rfl,rfl,rfl,t0,t1,t2,t3⟩:=Go.Joins.open_agg4 underlying35 ada Wm (hval 0 35 v0 rfl rfl) h0;have h1k:=h1;obtain⟨z0,z1,a0,a1,m,rfl,rfl,rfl,k0,k1⟩:=Go.Joins.open_agg2 underlying55 adb Wn (hval 1 55 u1 rfl rfl) h1;obtain⟨Ik,rfl,rfl,rfl,wl1⟩:=open_int underlying3 (hval 2 3 u2 rfl rfl) h2;obtain⟨x,rfl,rfl,rfl,wx1⟩:=open_int underlying2 (hval 3 2 u3 rfl rfl) h3;obtain⟨off,e5,e6⟩:=DataW.trod_int underlying3 k0;obtain⟨back,e7,e8⟩:=DataW.trod_bool underlying4 k1;cases e5;cases e7;obtain⟨rfl,_⟩:=e6;subst e8;obtain⟨s,e0,_⟩:=DataW.trod_string underlying9 t0;obtain⟨b,e1,_⟩:=DataW.trod_int underlying3 t1;cases e0;cases e1;obtain⟨Wd,hWd⟩:=Li t2;obtain⟨Br,hBr⟩:=Li t3;clear XV;simp only[cD]at hW';have hlt:∀x∈y0.2++(y1.2++(y2.2++y3.2)),x.block<W.heap.size:=fun x hx=>by simpa using hW'.lt x hx
 have hx:-9223372036854775808<=x/\x<=9223372036854775807:=by
  have h:=wx1;rw[Lit.wf,b7,show IntKind.i64.min=-9223372036854775808 by decide,show IntKind.i64.max=9223372036854775807 by decide]at h;exact⟨dz h.1,dz h.2⟩
 refine(Oi s b x2 x3 Wd Br off Ik x back W (ground hL) hWd hBr hx).mono fun e W' ⟨he,hf⟩=>?_
 have hb:Below W.heap.size W W':=hf.below (ak _) (fun _ hk=>absurd hk af);subst he;refine⟨_,rfl,_,_,_,[],y0.2++(y1.2++(y2.2++y3.2))++[],[],hW',?_,?_,?_,hb.frame _,fun h=>by cases h⟩
 ·exact trodAll_cons_mk (shut_bool underlying4 _) trodAll_mk0
 ·exact trodAll_cons_mk (Below.trod laidOut (by kernel_rfl) (dz (by kernel_rfl)) h0k hb hlt) (trodAll_cons_mk (Below.trod laidOut (by kernel_rfl) (dz (by kernel_rfl)) h1k hb (fun x hx=>by simp at hx)) (trodAll_cons_mk (shut_int underlying3 wl1) (trodAll_cons_mk (shut_int underlying2 wx1) trodAll_mk0)))
 ·exact rfl
end Go.Proofs.YtnakejhohdbfdaaGreatDoor.moves

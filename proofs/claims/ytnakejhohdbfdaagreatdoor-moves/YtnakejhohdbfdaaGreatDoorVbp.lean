import Derived.Test.YtnakejhohdbfdaaGreatDoorVbo
namespace Go.Proofs.YtnakejhohdbfdaaGreatDoor
open Go.RowKit jN Lay uS Go.Proofs.Tryz
theorem LD.ord {WB w:World}{U P:Nat}{s:ByteArray}{bs:Int}{vC:Value}{gL cL:Nat}{Cs:List (Int × Int × Int × Int)}{Ls:List Ln}{hm:List Value}(h:LD WB w U P s bs vC (.slice (some ⟨gL,0,none⟩) Ls.length cL) Cs Ls hm){i:Nat}(hi:i<Ls.length):∃aO cO,w.cell? ⟨gL,i * 4+2,none⟩=some (.slice aO (ji Ls i).o.length cO):=by
 obtain⟨vO,vX,_,_,a3,_,a5,_⟩:=h.Du i _ (mL hi);obtain⟨aO,cO,Dd⟩:=gA a5;subst Dd;exact⟨aO,cO,by rw[h.qa.cellAt _ (by omega)];exact a3⟩
theorem N9 (WB:World)(U P:Nat)(s:ByteArray)(bs r:Int)(vC vL:Value)(Cs:List (Int × Int × Int × Int))(Bd V:List Int)(Ls:List Ln)(hm:List Value)(off pa:Int)(back pb:Bool)(g1 g2:Nat)(w:World)(h:LD WB w U P s bs vC vL Cs Ls hm)(hb:bs=0\/bs=1)(hr:r=1 - 2 * bs)(hi:g1<Ls.length)(hk2:g2<=(ji Ls g1).o.length)(hK:Ls.length<=400)(hlo:∀l∈Ls,l.o.length<=1000)
 (hg:oP 20 P off back (.agg #[.int .i64 (g1:Nat),.int .i64 (g2:Nat)]) w)
 (hn:∀line gap Y,Fr [] w Y->Calls prog 24 #[.pointer (some ⟨P,0,none⟩),.agg #[.int .i64 line,.int .i64 gap]] Y fun e w'=>e=.returned (.agg #[.int .i64 (iM Bd V Ls line gap).1,.bool (iM Bd V Ls line gap).2])/\Fr [] Y w')
 (hp:oP 18 P off back (.agg #[.int .i64 pa,.bool pb]) w) (R:(Int × Bool) × Bool)
 (hR:R=if g2<(ji Ls g1).o.length then(iM Bd V Ls (g1:Nat) ((g2:Int)+1),true)else if 0<=(g1:Int)+r/\(g1:Int)+r<(Ls.length:Int)then(iM Bd V Ls ((g1:Int)+r) 0,true)else((pa,pb),false)) :
 Calls prog 67 #[.pointer (some ⟨P,0,none⟩),.bool true,.agg #[.int .i64 off,.bool back]] w fun e w'=>e=.returned (.tuple #[.agg #[.int .i64 R.1.1,.bool R.1.2],.bool R.2])/\Fr [] w w':=by
 obtain⟨gL,cL,qw⟩:=fR (by omega) h.qa;subst qw;obtain⟨aO,cO,hc⟩:=h.ord hi;have hl1:=hlo _ (kE hi);subst hR;by_cases h1:g2<(ji Ls g1).o.length
 ·rw[ay h1]
  exact Zf P gL cL Ls.length g1 g2 _ cO aO bs off back s vC _ _ w h.obj hi hc hl1 h1 hg (fun Y hf=>hn _ _ Y hf)
 ·rw[au h1]
  by_cases h2:0<=(g1:Int)+r/\(g1:Int)+r<(Ls.length:Int)
  ·rw[ay h2]
   obtain⟨li,hli⟩:∃li:Nat,(g1:Int)+r=(li:Int):=⟨((g1:Int)+r).toNat,by omega⟩;rw[hli]at h2 ⊢
   rcases hb with rfl | rfl
   ·exact V4 P gL cL Ls.length g1 g2 _ cO aO off back s vC _ _ w h.obj hi hK hc hl1 (by omega) hk2 li (by omega) (by omega) hg (fun Y hf=>hn _ _ Y hf)
   ·exact V5 P gL cL Ls.length g1 g2 _ cO aO off back s vC _ _ w h.obj hi hK hc hl1 (by omega) hk2 li (by omega) (by omega) hg (fun Y hf=>hn _ _ Y hf)
  ·rw[au h2]
   rcases hb with rfl | rfl
   ·exact V6 P gL cL Ls.length g1 g2 _ cO aO off back s vC _ _ w h.obj hi hK hc hl1 (by omega) hk2 (by omega) hg hp
   ·exact V7 P gL cL Ls.length g1 g2 _ cO aO off back s vC _ _ w h.obj hi hc hl1 (by omega) hk2 (by omega) hg hp
theorem N_ (WB:World)(U P:Nat)(s:ByteArray)(bs r:Int)(vC vL:Value)(Cs:List (Int × Int × Int × Int))(Bd V:List Int)(Ls:List Ln)(hm:List Value)(off pa:Int)(back pb:Bool)(g1 g2:Nat)(w:World)(h:LD WB w U P s bs vC vL Cs Ls hm)(hb:bs=0\/bs=1)(hr:r=1 - 2 * bs)(hi:g1<Ls.length)(hk2:g2<=(ji Ls g1).o.length)(hK:Ls.length<=400)(hlo:∀l∈Ls,l.o.length<=1000)
 (hg:oP 20 P off back (.agg #[.int .i64 (g1:Nat),.int .i64 (g2:Nat)]) w)
 (hn:∀line gap Y,Fr [] w Y->Calls prog 24 #[.pointer (some ⟨P,0,none⟩),.agg #[.int .i64 line,.int .i64 gap]] Y fun e w'=>e=.returned (.agg #[.int .i64 (iM Bd V Ls line gap).1,.bool (iM Bd V Ls line gap).2])/\Fr [] Y w')
 (hp:oP 18 P off back (.agg #[.int .i64 pa,.bool pb]) w) (R:(Int × Bool) × Bool)
 (hR:R=if 0<g2 then(iM Bd V Ls (g1:Nat) ((g2:Int) - 1),true)else if 0<=(g1:Int) - r/\(g1:Int) - r<(Ls.length:Int)then(iM Bd V Ls ((g1:Int) - r) ((ji Ls ((g1:Int) - r).toNat).o.length:Nat),true)else((pa,pb),false)) :
 Calls prog 67 #[.pointer (some ⟨P,0,none⟩),.bool false,.agg #[.int .i64 off,.bool back]] w fun e w'=>e=.returned (.tuple #[.agg #[.int .i64 R.1.1,.bool R.1.2],.bool R.2])/\Fr [] w w':=by
 obtain⟨gL,cL,qw⟩:=fR (by omega) h.qa;subst qw;obtain⟨aO,cO,hc⟩:=h.ord hi;have hl1:=hlo _ (kE hi);subst hR;by_cases h1:0<g2
 ·rw[ay h1]
  exact Zg P gL cL Ls.length g1 g2 _ cO aO bs off back s vC _ _ w h.obj hi hc hl1 h1 hk2 hg (fun Y hf=>hn _ _ Y hf)
 ·rw[au h1]
  by_cases h2:0<=(g1:Int) - r/\(g1:Int) - r<(Ls.length:Int)
  ·rw[ay h2]
   obtain⟨li,hli⟩:∃li:Nat,(g1:Int) - r=(li:Int):=⟨((g1:Int) - r).toNat,by omega⟩;rw[hli]at h2 ⊢;rw[cH];have Zj:li<Ls.length:=by omega
   obtain⟨Z8,Z7,hc2⟩:=h.ord Zj
   rcases hb with rfl | rfl
   ·exact V8 P gL cL Ls.length g1 g2 _ cO aO off back s vC _ _ w h.obj hi hK hc (by omega) li (by omega) Zj _ Z7 Z8 hc2 hg (fun Y hf=>hn _ _ Y hf)
   ·exact V9 P gL cL Ls.length g1 g2 _ cO aO off back s vC _ _ w h.obj hi hK hc (by omega) li (by omega) Zj _ Z7 Z8 hc2 hg (fun Y hf=>hn _ _ Y hf)
  ·rw[au h2]
   rcases hb with rfl | rfl
   ·exact V_ P gL cL Ls.length g1 g2 _ cO aO off back s vC _ _ w h.obj hi hc (by omega) (by omega) hg hp
   ·exact Wa P gL cL Ls.length g1 g2 _ cO aO off back s vC _ _ w h.obj hi hK hc (by omega) (by omega) hg hp
end Go.Proofs.YtnakejhohdbfdaaGreatDoor

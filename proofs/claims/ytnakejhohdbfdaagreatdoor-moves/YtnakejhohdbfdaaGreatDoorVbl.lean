import Derived.Test.YtnakejhohdbfdaaGreatDoorVbk
set_option maxHeartbeats 4000000
set_option maxRecDepth 10000
namespace Go.Proofs.YtnakejhohdbfdaaGreatDoor
open Go.RowKit jN Lay uS Go.Proofs.Tryz
def fY (Bd:List Int)(z off:Int)(back:Bool):Int × Bool :=
 let o:=best Bd (min (max off 0) z) Bd.length
 (o,if o=0 then false else if o=z then true else back)
abbrev oP (n:Nat)(P:Nat)(off:Int)(back:Bool)(r:Value)(w:World):Prop:=∀Y,Fr [] w Y->Calls prog n #[.pointer (some ⟨P,0,none⟩),.agg #[.int .i64 off,.bool back]] Y fun e w'=>e=.returned r/\Fr [] Y w'
abbrev FZ (n:Nat)(a:Array Value)(r:Value)(w:World):Prop:=∀Y,Fr [] w Y->Calls prog n a Y fun e w'=>e=.returned r/\Fr [] Y w'
abbrev SF (s:ByteArray)(nB:Nat)(Bd:List Int)(w:World):Prop:=∀Y,Fr [] w Y->Calls prog 66 #[.string s] Y fun e w'=>∃gB cB,e=.returned (.slice (some ⟨gB,0,none⟩) nB cB)/\rowAt w' gB nB Bd/\Y.heap.size<=gB/\Fr [] Y w'
theorem jW (w:World)(off:Int)(back:Bool):∃w2,w2=(w.alloc (.cells #[.int .i64 off,.bool back] 55)).alloc (.cells #[.int .i64 0,.bool false] 55)/\Hid (Fr [] w w2)/\Hid (w2.heap[w.heap.size]?=some (.cells #[.int .i64 off,.bool back] 55 (0,0)))/\Hid (w2.heap[w.heap.size+1]?=some (.cells #[.int .i64 0,.bool false] 55 (0,0))):=by
 refine⟨_,rfl,hid (((Fr.refl [] w).alloc _).alloc _),hid (fO (fU w _) ((Fr.refl [] _).alloc _) af),hid ?_⟩;have hs:(w.alloc (.cells #[.int .i64 off,.bool back] 55)).heap.size=w.heap.size+1:=by simp
 have h0:=fU (w.alloc (.cells #[.int .i64 off,.bool back] 55)) (.cells #[.int .i64 0,.bool false] 55);rw[hs]at h0;exact h0
theorem jE {w2 w3:World}(h:Fr [] w2 w3)(a:Array Value)(t:TypeId):∃w4,w4=w3.alloc (.cells a t)/\Hid (Fr [] w2 w4)/\Hid (w4.heap[w3.heap.size]?=some (.cells a t (0,0))):=⟨_,rfl,hid (h.alloc _),hid (fU w3 _)⟩
theorem mC {w4 w5:World}(h:Fr [] w4 w5)(a c:Array Value)(t u:TypeId):∃w6 w7,w6=w5.alloc (.cells a t)/\w7=w6.alloc (.cells c u)/\w6.heap.size=w5.heap.size+1/\w7.heap.size=w5.heap.size+2/\Hid (Fr [] w4 w6)/\Hid (Fr [] w4 w7)/\Hid (w7.heap[w5.heap.size]?=some (.cells a t (0,0)))/\Hid (w7.heap[w5.heap.size+1]?=some (.cells c u (0,0))):=by
 have hs:(w5.alloc (.cells a t)).heap.size=w5.heap.size+1:=by simp
 refine⟨_,_,rfl,rfl,hs,by simp,hid (h.alloc _),hid ((h.alloc _).alloc _),hid (fO (fU w5 _) ((Fr.refl [] _).alloc _) af),hid ?_⟩;rw[<-hs];exact fU _ _
theorem gI {w:World}{b:Nat}{x y:Value}{t:TypeId}(h:w.heap[b]?=some (.cells #[x,y] t (0,0))):w.cell? ⟨b,0,none⟩=some x/\w.cell? ⟨b,1,none⟩=some y:=⟨fN h rfl,fN h rfl⟩
theorem jM {w:World}{b:Nat}{x y:Value}{t:TypeId}(h:w.heap[b]?=some (.cells #[x,y] t (0,0))):w.cell? ⟨b,0,none⟩=some x/\w.cell? ⟨b,1,none⟩=some y/\w.frozen? ⟨b,0,none⟩=false/\w.frozen? ⟨b,1,none⟩=false:=⟨fN h rfl,fN h rfl,fT h 0,fT h 1⟩
theorem Le {w W:World}(o1:Obj){x0 x1 y0 y1:Value}{t:Nat}(h:Fr [w.heap.size] ((w.alloc o1).alloc (.cells #[x0,x1] t)) W):((W.setCell ⟨w.heap.size+1,0,none⟩ y0).setCell ⟨w.heap.size+1,1,none⟩ y1).heap[w.heap.size+1]?=some (.cells #[y0,y1] t (0,0)):=by
 have hs:(w.alloc o1).heap.size=w.heap.size+1:=by simp
 have h0:=fU (w.alloc o1) (.cells #[x0,x1] t);rw[hs]at h0;exact fP (fP (fO h0 h (by simp)) 0 y0) 1 y1
theorem VO (Bd:List Int)(z:Int)(hr:jf Bd z)(gB cB nB:Nat)(v1 v2:Value)(w:World)(hn:nB=Bd.length)(hl:nB<=1000)(hB:rowAt w gB nB Bd) :
 Calls prog 101 #[.agg #[.slice (some ⟨gB,0,none⟩) nB cB,v1,v2]] w fun e w'=>e=.returned (.int .i64 z)/\w'=w.alloc (.cells #[.slice (some ⟨gB,0,none⟩) nB cB,v1,v2] 163):=by
 have hl0:=hr.len;obtain⟨m,hm⟩:∃m,m=nB - 1:=⟨_,rfl⟩;have hz:nth Bd m=z:=by rw[hm,hn,nth,hr.last];rfl
 have c1:=hB m (by omega);rw[hz]at c1;have hw1:IntKind.i64.wrap ((nB:Int) - 1)=(m:Int):=by rw[eT];omega
 have hmI:(m:Int)<(nB:Int):=by omega
 have hgl:=eS _ _ c1;dsimp only at hgl;clear hB hr hz hm hn;go_enter func101,ntmps101;go_wp2;go_ret;exact⟨rfl,rfl⟩
theorem acI {w W:World}{o1:Obj}{x0 x1 y0 y1:Value}{Q:Ending->World->Prop}{tm:Array Value}(WU:tm.getD 4 undef=.pointer (some ⟨w.heap.size+1,0,none⟩))(h:Fr [w.heap.size] ((w.alloc o1).alloc (.cells #[x0,x1] 55)) W)(hq:Q (.returned (.agg #[y0,y1])) ((W.setCell ⟨w.heap.size+1,0,none⟩ y0).setCell ⟨w.heap.size+1,1,none⟩ y1)):bodyPost prog Tryz.f57 Q .ret { tmps:=tm,defers:=[] } ((W.setCell ⟨w.heap.size+1,0,none⟩ y0).setCell ⟨w.heap.size+1,1,none⟩ y1):=by
 have qi:=Le (y0:=y0) (y1:=y1) o1 h;exact eU (eW (t:=55) (fr:=(0,0)) rfl _ _ (w.heap.size+1) _ _ WU qi underlying55 rfl (by kernel_rfl)) rfl hq
theorem SG {w W:World}{o1 o3:Obj}{x0 x1 y0 y1:Value}{Q:Ending->World->Prop}{tm:Array Value}(WU:tm.getD 4 undef=.pointer (some ⟨w.heap.size+1,0,none⟩))(h:Fr [w.heap.size] ((w.alloc o1).alloc (.cells #[x0,x1] 55)) W)(hq:Q (.returned (.agg #[y0,y1])) (((W.setCell ⟨w.heap.size+1,0,none⟩ y0).setCell ⟨w.heap.size+1,1,none⟩ y1).alloc o3)):bodyPost prog Tryz.f57 Q .ret { tmps:=tm,defers:=[] } (((W.setCell ⟨w.heap.size+1,0,none⟩ y0).setCell ⟨w.heap.size+1,1,none⟩ y1).alloc o3):=by
 have qi:=fO (Le (y0:=y0) (y1:=y1) o1 h) ((Fr.refl [] _).alloc o3) af;exact eU (eW (t:=55) (fr:=(0,0)) rfl _ _ (w.heap.size+1) _ _ WU qi underlying55 rfl (by kernel_rfl)) rfl hq
theorem xz (B P:Nat)(Bd V X:List Int)(r z:Int)(Ls:List Ln)(v0 v1 v2 vL:Value)(hs:List Value)(off:Int)(back:Bool)(w:World)(h:LP w B P Bd V X r Ls v0 v1 v2 vL hs)(hr:jf Bd z)(hz:0<=z)(hl:Bd.length<=1000) :
 Calls prog 57 #[.pointer (some ⟨P,0,none⟩),.agg #[.int .i64 off,.bool back]] w fun e w'=>e=.returned (.agg #[.int .i64 (fY Bd z off back).1,.bool (fY Bd z off back).2])/\Fr [] w w':=by
 obtain⟨k,hk⟩:=p9 (min (max off 0) z) Bd hr.sorted;have hl0:=hr.len;obtain⟨gB,cB,hvB,_,wV⟩:=h.b.row hl0;subst hvB;have acJ:=hid (fun(Y:World) (hf:Fr [] w Y)=>mE.Qj Bd z hr off false k gB cB Y hz hk (by omega) (fun j hj=>wV.fr hf af j hj));rw[<-rK hr hk (by omega)]at acJ;have acK:=hid (fun(Y:World) (hf:Fr [] w Y)=>VO Bd z hr gB cB Bd.length v1 v2 Y rfl hl (wV.fr hf af));have p0:=fN h.o (i:=0) (v:=.slice (some ⟨gB,0,none⟩) Bd.length cB) rfl;have p1:=fN h.o (i:=1) (v:=v1) rfl;have p2:=fN h.o (i:=2) (v:=v2) rfl;have rW:P<w.heap.size:=eS _ _ p0;have KL:=hid (show fY Bd z off back=(best Bd (min (max off 0) z) Bd.length,if best Bd (min (max off 0) z) Bd.length=0 then false else if best Bd (min (max off 0) z) Bd.length=z then true else back)from rfl);rw[KL.out];dsimp only;generalize best Bd (min (max off 0) z) Bd.length=o at *;clear h hr hk wV KL hl hl0;obtain⟨bk,hbk⟩:∃bk,bk=(if o=0 then false else if o=z then true else back):=⟨_,rfl⟩;rw[<-hbk];have Y5:=hid hbk;clear hbk;go_enter func57,ntmps57;go_wp2_with fail
 go_region_with (first
  | (go_at_call 100;refine(acJ.out _ ?fa).mono ?_;(case fa=>(repeat(first | refine Fr.fQ ?_ (by omega) | refine Fr.drewN ?_ _ | refine Fr.drew ?_ | with_reducible exact Fr.refl _ _ | refine Fr.alloc ?_ _)));rintro e w1 ⟨rfl,q,rfl⟩))
 all_goals (
  by_cases ho0:o=0
  ·subst ho0
   have hb:=Y5.out
   rw[ay rfl]at hb
   subst hb
   go_wp2
   refine acI (o1:=.cells #[.int .i64 off,.bool back] 55) (x0:=.int .i64 0) (x1:=.bool false) rfl ?_ ⟨rfl,?_⟩
   ·(repeat(first | refine Fr.set ?_ (aj.2 rfl) _ | refine Fr.drewN ?_ _ | refine Fr.drew ?_ | with_reducible exact Fr.refl _ _ | refine Fr.alloc ?_ _))
   ·(repeat(first | refine Fr.fQ ?_ (by omega) | refine Fr.drewN ?_ _ | refine Fr.drew ?_ | with_reducible exact Fr.refl _ _ | refine Fr.alloc ?_ _))
  ·have agS:(o == 0)=false:=by simpa using ho0
   by_cases ho1:o=z
   ·have hb:=Y5.out
    rw[au ho0,ay ho1]at hb
    subst ho1
    subst hb
    go_wp2_with (first
     | (go_at_call 101;refine(acK.out _ ?fa).mono ?_;(case fa=>(repeat(first | refine Fr.fQ ?_ (by omega) | refine Fr.drewN ?_ _ | refine Fr.drew ?_ | with_reducible exact Fr.refl _ _ | refine Fr.alloc ?_ _)));rintro e w1 ⟨rfl,rfl⟩))
    refine SG (o1:=.cells #[.int .i64 off,.bool back] 55) (x0:=.int .i64 0) (x1:=.bool false) rfl ?_ ⟨rfl,?_⟩
    ·(repeat(first | refine Fr.set ?_ (aj.2 rfl) _ | refine Fr.drewN ?_ _ | refine Fr.drew ?_ | with_reducible exact Fr.refl _ _ | refine Fr.alloc ?_ _))
    ·(repeat(first | refine Fr.fQ ?_ (by omega) | refine Fr.drewN ?_ _ | refine Fr.drew ?_ | with_reducible exact Fr.refl _ _ | refine Fr.alloc ?_ _))
   ·have hb:=Y5.out
    rw[au ho0,au ho1]at hb
    subst back
    have agT:(o == z)=false:=by simpa using ho1
    go_wp2_with (first
     | (go_at_call 101;refine(acK.out _ ?fa).mono ?_;(case fa=>(repeat(first | refine Fr.fQ ?_ (by omega) | refine Fr.drewN ?_ _ | refine Fr.drew ?_ | with_reducible exact Fr.refl _ _ | refine Fr.alloc ?_ _)));rintro e w1 ⟨rfl,rfl⟩))
    refine SG (o1:=.cells #[.int .i64 off,.bool bk] 55) (x0:=.int .i64 0) (x1:=.bool false) rfl ?_ ⟨rfl,?_⟩
    ·(repeat(first | refine Fr.set ?_ (aj.2 rfl) _ | refine Fr.drewN ?_ _ | refine Fr.drew ?_ | with_reducible exact Fr.refl _ _ | refine Fr.alloc ?_ _))
    ·(repeat(first | refine Fr.fQ ?_ (by omega) | refine Fr.drewN ?_ _ | refine Fr.drew ?_ | with_reducible exact Fr.refl _ _ | refine Fr.alloc ?_ _)))
theorem SH {b:Nat}{W:World}{x0 x1 y0 y1:Value}{Q:Ending->World->Prop}{tm:Array Value}(WU:tm.getD 4 undef=.pointer (some ⟨b,0,none⟩))(h:W.heap[b]?=some (.cells #[x0,x1] 55 (0,0)))(hq:Q (.returned (.agg #[y0,y1])) ((W.setCell ⟨b,0,none⟩ y0).setCell ⟨b,1,none⟩ y1)):bodyPost prog Tryz.f18 Q .ret { tmps:=tm,defers:=[] } ((W.setCell ⟨b,0,none⟩ y0).setCell ⟨b,1,none⟩ y1) :=
 eU (eW (t:=55) (fr:=(0,0)) rfl _ _ b _ _ WU (fP (fP h 0 y0) 1 y1) underlying55 rfl (by kernel_rfl)) rfl hq
theorem xA (WB:World)(U lb:Nat)(s:ByteArray)(bs:Int)(vC vM:Value)(Cs:List (Int × Int × Int × Int))(Ls:List Ln)(hm:List Value)(n:Nat)(off:Int)(back:Bool)(w:World)(h:LD WB w U lb s bs vC vM Cs Ls hm)(hs:s.size<=1000000)(hT:Floor w)(hend:gJ.Ends s n) :
 Calls prog 18 #[.pointer (some ⟨lb,0,none⟩),.agg #[.int .i64 off,.bool back]] w fun e w'=>e=.returned (.agg #[.int .i64 (fY (bnd s n) (s.size:Nat) off back).1,.bool (fY (bnd s n) (s.size:Nat) off back).2])/\Fr [] w w':=by
 have hr:=lP hend;obtain⟨k,hk⟩:=p9 (min (max off 0) ((s.size:Nat):Int)) (bnd s n) hr.sorted;have p0:=fN h.obj (i:=0) (v:=.string s) rfl;have rW:lb<w.heap.size:=eS _ _ p0;obtain⟨w2,hw2,f_,iG,HR2⟩:=jW w off back;have H58:Hid (∀Y:World,Fr [] w2 Y->Calls prog 58 #[.string s,.int .i64 off,.bool false] Y fun e w'=>e=.returned (.int .i64 (best (bnd s n) (min (max off 0) ((s.size:Nat):Int)) (bnd s n).length))/\Fr [] Y w'):=by
  intro Y hf;rw[rK hr hk (by omega)];exact(mE.zl s off false Y hs (hT.fr (f_.out.trans hf)).u n k hend hk).mono fun e w' h=>⟨h.1,Fr.of_below h.2⟩
 have HP0:=hid (f_.out.cell p0 af);have KL:=hid (show fY (bnd s n) (s.size:Nat) off back=(best (bnd s n) (min (max off 0) ((s.size:Nat):Int)) (bnd s n).length,if best (bnd s n) (min (max off 0) ((s.size:Nat):Int)) (bnd s n).length=0 then false else if best (bnd s n) (min (max off 0) ((s.size:Nat):Int)) (bnd s n).length=((s.size:Nat):Int)then true else back)from rfl);rw[KL.out];dsimp only;generalize best (bnd s n) (min (max off 0) ((s.size:Nat):Int)) (bnd s n).length=o at *;obtain⟨bk,hbk⟩:∃bk,bk=(if o=0 then false else if o=((s.size:Nat):Int)then true else back):=⟨_,rfl⟩;rw[<-hbk];have Y5:=hid hbk;have c0:=fN iG.out (i:=0) (v:=.int .i64 off) rfl;have q0:=HP0.out;clear h hr hk KL hT hend hbk;go_enter func18,ntmps18;have HW2:=hid hw2;clear hw2;go_wp2_with fail;rw[<-HW2.out]
 go_region_with (first
  | (go_at_call 58;refine(H58.out _ ?fa).mono ?_;(case fa=>(repeat(first | refine Fr.fQ ?_ (by omega) | refine Fr.drewN ?_ _ | refine Fr.drew ?_ | with_reducible exact Fr.refl _ _ | refine Fr.alloc ?_ _)));rintro e w4 ⟨rfl,jl⟩;have gP:=hid (show Fr [] w2 w4 from⟨jl.os,jl.tape,jl.output,jl.size,jl.block⟩);have jD:=hid (fO iG.out gP.out af);have z0:=fN jD.out (i:=0) (v:=.int .i64 off) rfl;have f0:=fT jD.out 0;have z1:=fN jD.out (i:=1) (v:=.bool back) rfl;have f1:=fT jD.out 1;have HR4:=hid (fO HR2.out gP.out af);have r0:=fN HR4.out (i:=0) (v:=.int .i64 0) rfl;have r1:=fN HR4.out (i:=1) (v:=.bool false) rfl;have g0:=fT HR4.out 0;have g1:=fT HR4.out 1;have q4:=gP.out.cell q0 af;clear jl))
 all_goals (
  have hnP:lb≠w.heap.size:=by omega
  by_cases ho0:o=0
  ·subst ho0
   have hb:=Y5.out
   rw[ay rfl]at hb
   subst hb
   go_wp2
   refine SH rfl (fO HR4.out (show Fr [w.heap.size] w4 _ by(repeat(first | refine Fr.set ?_ (aj.2 rfl) _ | refine Fr.drewN ?_ _ | refine Fr.drew ?_ | with_reducible exact Fr.refl _ _ | refine Fr.alloc ?_ _))) (by simp)) ⟨rfl,?_⟩
   repeat(refine Fr.fQ ?_ (by omega))
   exact f_.out.trans gP.out
  ·have agS:(o == 0)=false:=by simpa using ho0
   by_cases ho1:o=((s.size:Nat):Int)
   ·have hb:=Y5.out
    rw[au ho0,ay ho1]at hb
    subst ho1
    subst hb
    go_wp2_with fail
    go_quiet (fail)
    go_wp2
    refine SH rfl (fO HR4.out (show Fr [w.heap.size] w4 _ by(repeat(first | refine Fr.set ?_ (aj.2 rfl) _ | refine Fr.drewN ?_ _ | refine Fr.drew ?_ | with_reducible exact Fr.refl _ _ | refine Fr.alloc ?_ _))) (by simp)) ⟨rfl,?_⟩
    repeat(first | refine Fr.fQ ?_ (by omega) | refine Fr.drewN ?_ _)
    exact f_.out.trans gP.out
   ·have hb:=Y5.out
    rw[au ho0,au ho1]at hb
    subst back
    have agT:(o == ((s.size:Nat):Int))=false:=by simpa using ho1
    go_wp2_with fail
    go_quiet (fail)
    go_wp2
    refine SH rfl (fO HR4.out (show Fr [w.heap.size] w4 _ by(repeat(first | refine Fr.set ?_ (aj.2 rfl) _ | refine Fr.drewN ?_ _ | refine Fr.drew ?_ | with_reducible exact Fr.refl _ _ | refine Fr.alloc ?_ _))) (by simp)) ⟨rfl,?_⟩
    repeat(first | refine Fr.fQ ?_ (by omega) | refine Fr.drewN ?_ _)
    exact f_.out.trans gP.out)
structure Holds (Ls:List Ln)(x:Int)(i:Nat):Prop where
 lt:i<Ls.length
 yes:x<(ji Ls i).t
 no:∀j,j<i->¬x<(ji Ls j).t
theorem holds_one (f t x:Int)(vO vX:Value)(b:Nat)(w:World)(hb:w.cell? ⟨b,0,none⟩=some (.int .i64 x)) :
 Calls prog 168 #[.agg #[.int .i64 f,.int .i64 t,vO,vX],.pointer (some ⟨b,0,none⟩)] w fun e w'=>e=.returned (.bool (decide (x<t)))/\Fr [] w w':=by
 have hbl:=eS _ _ hb;dsimp only at hbl;go_enter func168,ntmps168;go_wp2;go_ret;exact⟨rfl,by(repeat(first | refine Fr.fQ ?_ (by omega) | refine Fr.drewN ?_ _ | refine Fr.drew ?_ | with_reducible exact Fr.refl _ _ | refine Fr.alloc ?_ _))⟩
theorem J_ (Ls:List Ln)(x:Int)(i b B U gL cL K:Nat)(hs:List Value)(w:World)(hi:Holds Ls x i)(hK:K=Ls.length)(hK4:K<=400)(hl:w.ownsRow B 51 4 (.slice (some ⟨gL,0,none⟩) K cL) K hs)(hn:lX w B U hs Ls)(hb:w.cell? ⟨b,0,none⟩=some (.int .i64 x)) :
 Calls prog 167 #[.slice (some ⟨gL,0,none⟩) K cL,.func (.func 168) #[] #[.pointer (some ⟨b,0,none⟩)]] w fun e w'=>e=.returned (.int .i64 (i:Nat))/\Fr [] w w':=by
 have HH:=hid hi
 have HL:=hid (fun j (hj:j<K)=>show ∃f vO vX,w.cell? ⟨gL,j * 4,none⟩=some (.int .i64 f)/\w.cell? ⟨gL,j * 4+1,none⟩=some (.int .i64 (ji Ls j).t)/\w.cell? ⟨gL,j * 4+2,none⟩=some vO/\w.cell? ⟨gL,j * 4+3,none⟩=some vX by
  obtain⟨vO,vX,a1,a2,a3,a4,_⟩:=hn j _ (mL (by omega))
  exact⟨_,vO,vX,by rw[hl.cellAt _ (by omega)];exact a1,by rw[hl.cellAt _ (by omega)];exact a2,by rw[hl.cellAt _ (by omega)];exact a3,by rw[hl.cellAt _ (by omega)];exact a4⟩)
 have HB:=hid hb;have hiK:i<K:=by have:=hi.lt;omega
 clear hi hl hn hb hK;go_enter func167,ntmps167;go_wp2_with fail;go_loopw [8] (fun vk wr=>∃k:Nat,vk=.int .i64 k/\k<=i/\Hid (Fr [] w wr)) (fun vk _=>K - (intOf vk).toNat)
 case atStart=>exact⟨0,rfl,aH _,hid (Fr.refl [] w)⟩
 case round =>
  obtain⟨k,rfl,hk,HF⟩:=hrel;obtain⟨f,vO,vX,a1,a2,a3,a4⟩:=HL.out k (by omega);have c1:=HF.out.cell a1 af;have c2:=HF.out.cell a2 af;have c3:=HF.out.cell a3 af;have c4:=HF.out.cell a4 af;have HY:=hid (HH.out.yes);have HN:=hid (HH.out.no k);have sX:(k:Int)<(K:Int):=by omega
  have VQ:=hid (fun(Y:World) (hf:Fr [] w Y)=>holds_one f (ji Ls k).t x vO vX b Y (hf.cell HB.out af));by_cases hki:k=i
  ·subst hki
   have hx:decide (x<(ji Ls k).t)=true:=by simpa using HY.out
   rw[hx]at VQ;clear hx a1 a2 a3 a4;generalize (ji Ls k).t=t at *;go_wp2_with (first | (go_at_call 168;refine(VQ.out _ HF.out).mono ?_;rintro e w4 ⟨rfl,jl⟩;have gP:=hid (HF.out.trans jl);clear jl));go_ret;exact⟨rfl,gP.out⟩
  ·have hx:decide (x<(ji Ls k).t)=false:=by simpa using HN.out (by omega)
   rw[hx]at VQ;clear hx a1 a2 a3 a4;generalize (ji Ls k).t=t at *;go_wp2_with (first | (go_at_call 168;refine(VQ.out _ HF.out).mono ?_;rintro e w4 ⟨rfl,jl⟩;have gP:=hid (HF.out.trans jl);clear jl));go_roundw
   case rel=>exact⟨k+1,by go_num,by omega,gP⟩
   case measure=>simp[intOf];omega
theorem NN (Ls:List Ln)(x:Int)(i B U gL cL K:Nat)(hs:List Value)(w:World)(hi:Holds Ls x i)(hK:K=Ls.length)(hK4:K<=400)(hl:w.ownsRow B 51 4 (.slice (some ⟨gL,0,none⟩) K cL) K hs)(hn:lX w B U hs Ls) :
 Calls prog 103 #[.slice (some ⟨gL,0,none⟩) K cL,.int .i64 x] w fun e w'=>e=.returned (.int .i64 (i:Nat))/\Fr [] w w':=by
 have f_:=hid (show Fr [] w (w.alloc (.cells #[.int .i64 x] 3)) by(repeat(first | refine Fr.fQ ?_ (by omega) | refine Fr.drewN ?_ _ | refine Fr.drew ?_ | with_reducible exact Fr.refl _ _ | refine Fr.alloc ?_ _)));have agU:=hid (J_ Ls x i w.heap.size B U gL cL K hs (w.alloc (.cells #[.int .i64 x] 3)) hi hK hK4 (fS hl f_.out) (hn.fr (fun _ _ _ _ _ _ h=>fS h f_.out)) (fN (fU w (.cells #[.int .i64 x] 3)) (i:=0) rfl));clear hi hK hl hn;go_enter func103,ntmps103;go_wp2_with (first | (go_at_call 167;refine agU.out.mono ?_;rintro e w4 ⟨rfl,jl⟩;have gP:=hid (f_.out.trans jl);clear jl));go_ret;exact⟨rfl,gP.out⟩
structure uE (O:List Nat)(c k:Nat):Prop where
 lt:k<O.length
 yes:fX O k=c
 no:∀j,j<k->fX O j≠c
theorem Dg (O:List Nat)(j:Nat):(O.map fun x:Nat=>(x:Int)).getD j 0=(fX O j:Nat):=by
 simp only[List.getD,bV,fX];cases O[j]? <;> simp
theorem NO (O:List Nat)(c k go n cap:Nat)(w:World)(hn:n=O.length)(hk:uE O c k)(hb:n<=1000)(hO:BH w go n O) :
 Calls prog 104 #[.slice (some ⟨go,0,none⟩) n cap,.int .i64 (c:Nat)] w fun e w'=>e=.returned (.int .i64 (k:Nat))/\w'=w:=by
 subst hn
 have h:=Tryz.slices_Index_int go 0 O.length cap (O.map fun x:Nat=>(x:Int)) (c:Nat) w (by simp) (by omega) (fun j hj=>by
  rw[Dg,c_];exact hO j (by simpa using hj))
 have e:Lib.idxOf ((O.map fun x:Nat=>(x:Int)).take O.length) (c:Nat)=(k:Nat):=by
  rw[d_ (by simp)]
  have:=Lib.idxFrom_hit (c:Nat) (O.map fun x:Nat=>(x:Int)) k 0 (by simpa using hk.lt) (by rw[Dg,hk.yes]) (fun j hj=>by
   rw[Dg];intro h;exact hk.no j hj (by omega))
  simpa[Lib.idxOf] using this
 rw[e]at h;exact h
theorem VR (a b:Int)(w:World)(ha:0<=a/\a<=1000000000000000)(hb:-9223372036854775808<=b/\b<=9223372036854775807):Calls prog 64 #[.int .i64 a,.int .i64 b] w fun e w'=>e=.returned (.int .u64 ((a - b).natAbs:Nat))/\w'=w:=by
 obtain⟨R,hR⟩:∃R,R=(a - b).natAbs:=⟨_,rfl⟩;rw[<-hR];by_cases h:b<a
 ·have hw:IntKind.u64.wrap (a - IntKind.u64.wrap b)=(R:Int):=by
   simp only[IntKind.wrap_u64];omega
  clear hR;go_enter func64,ntmps64;go_wp2;go_ret;exact⟨rfl,rfl⟩
 ·have hw:b - a=(R:Int):=by omega
  have hd:decide (b<a)=false:=by simpa using h
  clear hR;go_enter func64,ntmps64;go_wp2;go_ret;exact⟨rfl,rfl⟩
theorem J' (Bd V:List Int)(c:Nat)(right:Bool):lY Bd V c right=if(nth V c % 2 == 1)=right then(nth Bd c,false)else(nth Bd (c+1),true):=by
 unfold lY;by_cases h:right=(nth V c % 2 == 1)
 ·rw[ay h,ay h.symm]
 ·rw[au h,au (fun e=>h e.symm)]
theorem EU (WB:World)(U lb:Nat)(s:ByteArray)(bs:Int)(vC vM:Value)(Bd V X:List Int)(Ls:List Ln)(hm:List Value)(line gap:Int)(w:World)(h:LD WB w U lb s bs vC vM (NF Bd V X V.length) Ls hm)(T:xy Bd V Ls)(hv4:V.length<=400)(yu:0<Ls.length)(hK:Ls.length<=400)(hlo:∀l∈Ls,l.o.length<=1000) :
 Calls prog 24 #[.pointer (some ⟨lb,0,none⟩),.agg #[.int .i64 line,.int .i64 gap]] w fun e w'=>e=.returned (.agg #[.int .i64 (iM Bd V Ls line gap).1,.bool (iM Bd V Ls line gap).2])/\Fr [] w w':=by
 obtain⟨i,hi,hiK⟩:=r7 (x:=line) (m:=Ls.length - 1);have hi':near line ((Ls.length:Int) - 1)=(i:Int):=by rw[<-hi];congr 1;omega
 have hil:i<Ls.length:=by omega
 obtain⟨k,hk,hkl⟩:=r7 (x:=gap) (m:=(ji Ls i).o.length)
 have yZ:=hid (show iM Bd V Ls line gap=if(ji Ls i).o.length=0 then(0,false)else if k=0 then lY Bd V (fX (ji Ls i).o 0) false else lY Bd V (fX (ji Ls i).o (k - 1)) true by
  unfold iM;dsimp only;rw[hi',cH,hk,cH])
 obtain⟨vO,vX,_,_,a3,_,a5,_⟩:=h.Du i _ (mL hil);obtain⟨gL,cL,qw⟩:=fR yu h.qa;subst qw;obtain⟨aO,cO,Dd⟩:=gA a5;subst Dd;have GV:=T.ob _ (kE hil);have hlo1:=hlo _ (kE hil);have H62:=hid (fun(x hi:Int) (Y:World)=>ER x hi Y);have jK:=hid hi';have HE2:=hid hk;have Iy:=hid T.vb;have VM:=hid a5;have DX:=hid h.wT;rw[K9]at DX;have qy:=hid GV;have c3:w.cell? ⟨gL,i * 4+2,none⟩=some (.slice aO (ji Ls i).o.length cO):=by rw[h.qa.cellAt _ (by omega)];exact a3
 obtain⟨aC,cC,Me⟩:=gA DX.out;subst Me;have Cz:=hid h.obj;have p3:=fN h.obj (i:=3) (v:=.slice (some ⟨gL,0,none⟩) Ls.length cL) rfl;have rW:=h_ h.obj;have hgl:=eS _ _ c3;dsimp only at hgl;obtain⟨x,y,hxy⟩:∃x y,iM Bd V Ls line gap=(x,y):=⟨_,_,rfl⟩;rw[hxy]at yZ ⊢;obtain⟨o,ho⟩:∃o,o=(ji Ls i).o:=⟨_,rfl⟩;rw[<-ho]at yZ VM qy c3 hkl hlo1 HE2;obtain⟨lo,De⟩:∃lo,lo=o.length:=⟨_,rfl⟩;have tI:=hid De;rw[<-De]at yZ VM c3 hkl hlo1 HE2;obtain⟨K,hK'⟩:∃K,K=Ls.length:=⟨_,rfl⟩;rw[<-hK']at p3 yu hK hil jK;have HKK:=hid hK';obtain⟨w2,hw2⟩:∃w2,w2=(w.alloc (.cells #[.int .i64 line,.int .i64 gap] 58)).alloc (.cells #[.int .i64 0,.bool false] 55):=⟨_,rfl⟩;have f_:=hid (show Fr [] w w2 by rw[hw2];exact((Fr.refl [] w).alloc _).alloc _);have kT:=hid (show w2.heap[w.heap.size]?=some (.cells #[.int .i64 line,.int .i64 gap] 58 (0,0)) by rw[hw2];exact fO (fU w _) ((Fr.refl [] _).alloc _) af)
 have iG:=hid (show w2.heap[w.heap.size+1]?=some (.cells #[.int .i64 0,.bool false] 55 (0,0)) by
  have h:=fU (w.alloc (.cells #[.int .i64 line,.int .i64 gap] 58)) (.cells #[.int .i64 0,.bool false] 55)
  rw[<-hw2]at h;simpa using h)
 have mO:=hid (f_.out.cell p3 af);have AK:=hid (f_.out.cell c3 af);have sY:(i:Int)<(K:Int):=by omega
 have hwK:IntKind.i64.wrap ((K:Int) - 1)=(K:Int) - 1:=by rw[eT];omega
 clear h T a3 a5 hi hi' hk hxy ho De hK' GV hlo c3 p3;go_enter func24,ntmps24;go_wp2_with fail;rw[<-hw2];clear hw2;have b0:=fN kT.out (i:=0) (v:=.int .i64 line) rfl;have b1:=fN kT.out (i:=1) (v:=.int .i64 gap) rfl;have p3:=mO.out;have c3:=AK.out;have HB1:=hid (fun Y:World=>(by have h:=H62.out line ((K:Int) - 1) Y;rw[jK.out]at h;exact h:Calls prog 62 #[.int .i64 line,.int .i64 ((K:Int) - 1)] Y fun e w'=>e=.returned (.int .i64 (i:Int))/\w'=Y));have HB2:=hid (fun Y:World=>(by have h:=H62.out gap (lo:Int) Y;rw[HE2.out]at h;exact h:Calls prog 62 #[.int .i64 gap,.int .i64 (lo:Int)] Y fun e w'=>e=.returned (.int .i64 (k:Int))/\w'=Y));have z0:=fN iG.out (i:=0) (v:=.int .i64 0) rfl;have z1:=fN iG.out (i:=1) (v:=.bool false) rfl;have f0:=fT iG.out 0;have f1:=fT iG.out 1;have qi:=hid (fun(Y:World) (hY:Y.heap[w.heap.size+1]?=some (.cells #[.int .i64 0,.bool false] 55 (0,0))) (x:Int) (y:Bool)=>(show((Y.setCell ⟨w.heap.size+1,0,none⟩ (.int .i64 x)).setCell ⟨w.heap.size+1,1,none⟩ (.bool y)).heap[w.heap.size+1]?=some (.cells #[.int .i64 x,.bool y] 55 (0,0))from fP (fP hY 0 _) 1 _));have DY:=hid (fun(Y:World) (hY:Fr [] w Y) (x:Int) (y:Bool)=>(show Fr [] w ((Y.setCell ⟨w.heap.size+1,0,none⟩ (.int .i64 x)).setCell ⟨w.heap.size+1,1,none⟩ (.bool y))from hY.behind ((gH _ _ _ _).set (aj.2 rfl) _) (fun k hk=>by rw[aj.1 hk];omega)));go_quiet (first | (go_at_call 62;exact Calls.quiet_of_same (HB1.out _)));obtain⟨wq,hwq⟩:∃wq,wq=w2.drewN nq:=⟨_,rfl⟩;rw[<-hwq];have v_:=hid (show Fr [] w wq by rw[hwq];exact f_.out.trans (jr _ _));have Z6:=hid (show wq.heap[w.heap.size+1]?=some (.cells #[.int .i64 0,.bool false] 55 (0,0)) by rw[hwq];exact iG.out);have acL:=hid (show wq.heap[w.heap.size]?=some (.cells #[.int .i64 line,.int .i64 gap] 58 (0,0)) by rw[hwq];exact kT.out);have HPq:=hid (show wq.cell? ⟨lb,3,none⟩=some (.slice (some ⟨gL,0,none⟩) K cL) by rw[hwq];exact mO.out);have HCq:=hid (show wq.cell? ⟨gL,i * 4+2,none⟩=some (.slice aO lo cO) by rw[hwq];exact AK.out);clear hwq b0 b1 p3 c3 z0 z1 f0 f1;have b0:=fN acL.out (i:=0) (v:=.int .i64 line) rfl;have b1:=fN acL.out (i:=1) (v:=.int .i64 gap) rfl;have p3:=HPq.out;have c3:=HCq.out;have z0:=fN Z6.out (i:=0) (v:=.int .i64 0) rfl;have z1:=fN Z6.out (i:=1) (v:=.bool false) rfl;have f0:=fT Z6.out 0;have f1:=fT Z6.out 1;by_cases hl0:lo=0
 ·subst hl0
  have zK:=hid (show(x,y)=((0:Int),false) by rw[yZ.out,ay rfl]);obtain⟨rfl,rfl⟩:=dY zK.out;clear yZ zK;go_wp2_with (first | (go_at_call 62;refine(HB2.out _).mono ?_;rintro e w' ⟨rfl,hw'⟩;obtain rfl:wq=w':=hw'.symm));refine eU (eW (t:=55) (fr:=(0,0)) rfl _ _ (w.heap.size+1) _ _ rfl (qi.out _ ?h1 _ _) underlying55 rfl (by kernel_rfl)) rfl ?_
  case h1=>exact Z6.out
  exact⟨rfl,DY.out wq v_.out _ _⟩
 ·have hl0':((lo:Nat):Int)≠0:=by omega
  have agO:(((lo:Nat):Int) == 0)=false:=by simp;omega
  obtain⟨gO,cO',Dd⟩:=fR (by omega) VM.out;cases Dd;have hvp:0<V.length:=by
   have:=qy.out (fX o 0) (kK (by rw[<-tI.out];omega));omega
  obtain⟨gC,Th,Me⟩:=fR hvp DX.out;cases Me;have SC:=hid (fS VM.out v_.out);have zL:=hid (fS DX.out v_.out);have HL2:=hid (fO Cz.out v_.out af);have q2:=fN HL2.out (i:=2) (v:=.slice (some ⟨gC,0,none⟩) V.length cC) rfl;have HSE:=hid (J' Bd V);have VU:=hid (fun(x:Int) (y:Bool) (ob:Obj)=>fO (qi.out wq Z6.out x y) (((Fr.refl [] _).alloc ob).drew) af);have oC:=hid (fun(x:Int) (y:Bool) (ob:Obj)=>((DY.out wq v_.out x y).alloc ob).drew);by_cases hk0:k=0
  ·subst hk0
   obtain⟨c0,hc0⟩:∃c0,c0=fX o 0:=⟨_,rfl⟩;have zK:=hid (show(x,y)=if(nth V c0 % 2 == 1)=false then(nth Bd c0,false)else(nth Bd (c0+1),true) by rw[yZ.out,au hl0,ay rfl,<-hc0,HSE.out]);have d0:wq.cell? ⟨gO,0,none⟩=some (.int .i64 (c0:Nat)):=by rw[hc0,SC.out.cellAt 0 (by omega)];exact kJ (by rw[<-tI.out];omega)
   have hcV:c0<V.length:=by rw[hc0];exact qy.out (fX o 0) (kK (by rw[<-tI.out];omega))
   obtain⟨e0,e1,e2,e3⟩:=p_ _ c0 _ (J6 Bd V X hcV);have y0:wq.cell? ⟨gC,c0 * 4,none⟩=some (.int .i64 (nth Bd c0)):=by rw[zL.out.cellAt _ (by omega)];exact e0
   have y1:wq.cell? ⟨gC,c0 * 4+1,none⟩=some (.int .i64 (nth Bd (c0+1))):=by rw[zL.out.cellAt _ (by omega)];exact e1
   have y2:wq.cell? ⟨gC,c0 * 4+2,none⟩=some (.int .i64 (nth V c0)):=by rw[zL.out.cellAt _ (by omega)];exact e2
   have y3:wq.cell? ⟨gC,c0 * 4+3,none⟩=some (.int .i64 (nth X c0)):=by rw[zL.out.cellAt _ (by omega)];exact e3
   have hlv:=(Iy.out c0).1;have hlp:(0:Int)<(lo:Int):=by omega
   have hcI:(c0:Int)<(V.length:Int):=by omega
   generalize nth Bd c0=x0 at *;generalize nth Bd (c0+1)=x1 at *;generalize nth V c0=lv at *;generalize nth X c0=x3 at *;clear e0 e1 e2 e3 hc0 yZ;have IC:gC<wq.heap.size:=eS _ _ y0;have hgO:gO<wq.heap.size:=eS _ _ d0;have YS:lb<wq.heap.size:=eS _ _ q2;have hrb:w.heap.size+1<wq.heap.size:=eS _ _ z0;have hlm:lv % 2=0\/lv % 2=1:=by omega
   have agV:0<lo:=by omega
   have hn1:gO≠wq.heap.size:=by omega
   have hn2:gC≠wq.heap.size:=by omega
   have hn3:lb≠wq.heap.size:=by omega
   go_wp2_with (first | (go_at_call 62;refine(HB2.out _).mono ?_;rintro e w' ⟨rfl,hw'⟩;obtain rfl:wq=w':=hw'.symm));go_region
   rcases hlm with hlm | hlm
   ·have Dh:=hid (show x=x0/\y=false by have e:=zK.out;rw[hlm]at e;exact dY e)
    obtain⟨rfl,rfl⟩:=Dh.out;clear zK Dh;go_wp2_with fail;refine eU (eW (t:=55) (fr:=(0,0)) rfl _ _ (w.heap.size+1) _ _ rfl (VU.out _ _ _) underlying55 rfl (by kernel_rfl)) rfl ?_;exact⟨rfl,oC.out _ _ _⟩
   ·have Dh:=hid (show x=x1/\y=true by have e:=zK.out;rw[hlm]at e;exact dY e)
    obtain⟨rfl,rfl⟩:=Dh.out;clear zK Dh;go_wp2_with fail;refine eU (eW (t:=55) (fr:=(0,0)) rfl _ _ (w.heap.size+1) _ _ rfl (VU.out _ _ _) underlying55 rfl (by kernel_rfl)) rfl ?_;exact⟨rfl,oC.out _ _ _⟩
  ·have hk0':((k:Nat):Int)≠0:=by omega
   have agP:(((k:Nat):Int) == 0)=false:=by simp;omega
   obtain⟨k1,hk1⟩:∃k1,k1=k - 1:=⟨_,rfl⟩;have hw1:IntKind.i64.wrap ((k:Int) - 1)=(k1:Int):=by rw[eT];omega
   have agQ:(k1:Int)<(lo:Int):=by omega
   have ame:k1<lo:=by omega
   obtain⟨c0,hc0⟩:∃c0,c0=fX o k1:=⟨_,rfl⟩;have zK:=hid (show(x,y)=if(nth V c0 % 2 == 1)=true then(nth Bd c0,false)else(nth Bd (c0+1),true) by rw[yZ.out,au hl0,au hk0,<-hk1,<-hc0,HSE.out]);have d0:wq.cell? ⟨gO,k1,none⟩=some (.int .i64 (c0:Nat)):=by rw[hc0,SC.out.cellAt k1 (by omega)];exact kJ (by rw[<-tI.out];omega)
   have hcV:c0<V.length:=by rw[hc0];exact qy.out (fX o k1) (kK (by rw[<-tI.out];omega))
   obtain⟨e0,e1,e2,e3⟩:=p_ _ c0 _ (J6 Bd V X hcV);have y0:wq.cell? ⟨gC,c0 * 4,none⟩=some (.int .i64 (nth Bd c0)):=by rw[zL.out.cellAt _ (by omega)];exact e0
   have y1:wq.cell? ⟨gC,c0 * 4+1,none⟩=some (.int .i64 (nth Bd (c0+1))):=by rw[zL.out.cellAt _ (by omega)];exact e1
   have y2:wq.cell? ⟨gC,c0 * 4+2,none⟩=some (.int .i64 (nth V c0)):=by rw[zL.out.cellAt _ (by omega)];exact e2
   have y3:wq.cell? ⟨gC,c0 * 4+3,none⟩=some (.int .i64 (nth X c0)):=by rw[zL.out.cellAt _ (by omega)];exact e3
   have hlv:=(Iy.out c0).1;have hlp:(0:Int)<(lo:Int):=by omega
   have hcI:(c0:Int)<(V.length:Int):=by omega
   generalize nth Bd c0=x0 at *;generalize nth Bd (c0+1)=x1 at *;generalize nth V c0=lv at *;generalize nth X c0=x3 at *;clear e0 e1 e2 e3 hc0 yZ hk1;have IC:gC<wq.heap.size:=eS _ _ y0;have hgO:gO<wq.heap.size:=eS _ _ d0;have YS:lb<wq.heap.size:=eS _ _ q2;have hrb:w.heap.size+1<wq.heap.size:=eS _ _ z0;have hlm:lv % 2=0\/lv % 2=1:=by omega
   have agV:0<lo:=by omega
   have hn1:gO≠wq.heap.size:=by omega
   have hn2:gC≠wq.heap.size:=by omega
   have hn3:lb≠wq.heap.size:=by omega
   go_wp2_with (first | (go_at_call 62;refine(HB2.out _).mono ?_;rintro e w' ⟨rfl,hw'⟩;obtain rfl:wq=w':=hw'.symm));go_region
   rcases hlm with hlm | hlm
   ·have Dh:=hid (show x=x1/\y=true by have e:=zK.out;rw[hlm]at e;exact dY e)
    obtain⟨rfl,rfl⟩:=Dh.out;clear zK Dh;go_wp2_with fail;refine eU (eW (t:=55) (fr:=(0,0)) rfl _ _ (w.heap.size+1) _ _ rfl (VU.out _ _ _) underlying55 rfl (by kernel_rfl)) rfl ?_;exact⟨rfl,oC.out _ _ _⟩
   ·have Dh:=hid (show x=x0/\y=false by have e:=zK.out;rw[hlm]at e;exact dY e)
    obtain⟨rfl,rfl⟩:=Dh.out;clear zK Dh;go_wp2_with fail;refine eU (eW (t:=55) (fr:=(0,0)) rfl _ _ (w.heap.size+1) _ _ rfl (VU.out _ _ _) underlying55 rfl (by kernel_rfl)) rfl ?_;exact⟨rfl,oC.out _ _ _⟩
theorem SI (WB:World)(U lb:Nat)(s:ByteArray)(bs:Int)(vC vM:Value)(Bd V X:List Int)(Ls:List Ln)(hm:List Value)(line x:Int)(w:World)(h:LD WB w U lb s bs vC vM (NF Bd V X V.length) Ls hm)(T:xy Bd V Ls)(hv4:V.length<=400)(yu:0<Ls.length)(hK:Ls.length<=400)(hlo:∀l∈Ls,l.o.length<=1000)(hx:-9223372036854775808<=x/\x<=9223372036854775807) :
 Calls prog 26 #[.pointer (some ⟨lb,0,none⟩),.int .i64 line,.int .i64 x] w fun e w'=>e=.returned (.agg #[.int .i64 (qE Bd V Ls line x).1,.bool (qE Bd V Ls line x).2])/\Fr [] w w':=by
 obtain⟨i,hi,hiK⟩:=r7 (x:=line) (m:=Ls.length - 1);have hi':near line ((Ls.length:Int) - 1)=(i:Int):=by rw[<-hi];congr 1;omega
 have hil:i<Ls.length:=by omega
 have hmem:=kE hil
 have HHP:=hid (show qE Bd V Ls line x=iM Bd V Ls (i:Int) (iR (ji Ls i).x x (ji Ls i).x.length:Nat) by
  unfold qE;dsimp only;rw[hi',cH])
 obtain⟨vO,vX,_,_,_,a4,_,a6,_⟩:=h.Du i _ (mL hil);obtain⟨gL,cL,qw⟩:=fR yu h.qa;subst qw;have hxl:=T.xl _ hmem;have hlo1:=hlo _ hmem;obtain⟨gX,cX,NB⟩:=fR (by omega) a6;subst NB;have KZ:=hid (show rowAt w gX (ji Ls i).x.length (ji Ls i).x from fun j hj=>by rw[a6.cellAt j (by omega),iJ hj]);have HXB:=hid (T.xb _ hmem);have HB1:=hid (fun Y:World=>(by have h:=ER line ((Ls.length:Int) - 1) Y;rw[hi']at h;exact h:Calls prog 62 #[.int .i64 line,.int .i64 ((Ls.length:Int) - 1)] Y fun e w'=>e=.returned (.int .i64 (i:Int))/\w'=Y));have H64:=hid (fun(a:Int) (Y:World) (ha:0<=a/\a<=1000000000000000)=>VR a x Y ha hx);have H24:=hid (fun(Y:World) (hf:Fr [] w Y)=>EU WB U lb s bs vC (.slice (some ⟨gL,0,none⟩) Ls.length cL) Bd V X Ls hm (i:Int) (iR (ji Ls i).x x (ji Ls i).x.length:Nat) Y (h.iS hf) T hv4 yu hK hlo);rw[<-HHP.out]at H24;obtain⟨a,b,hab⟩:∃a b,qE Bd V Ls line x=(a,b):=⟨_,_,rfl⟩;rw[hab]at H24 ⊢;have c3:w.cell? ⟨gL,i * 4+3,none⟩=some (.slice (some ⟨gX,0,none⟩) (ji Ls i).x.length cX):=by rw[h.qa.cellAt _ (by omega)];exact a4
 have p3:=fN h.obj (i:=3) (v:=.slice (some ⟨gL,0,none⟩) Ls.length cL) rfl;obtain⟨w2,hw2⟩:∃w2,w2=w.alloc (.cells #[.int .i64 0,.bool false] 55):=⟨_,rfl⟩;have f_:=hid (show Fr [] w w2 by rw[hw2];exact(Fr.refl [] w).alloc _);have iG:=hid (show w2.heap[w.heap.size]?=some (.cells #[.int .i64 0,.bool false] 55 (0,0)) by rw[hw2];exact fU w _);have oO:=hid (f_.out.cell p3 af);have yA:=hid (f_.out.cell c3 af);have VV:=hid (KZ.out.fr f_.out af);have hwK:IntKind.i64.wrap ((Ls.length:Int) - 1)=(Ls.length:Int) - 1:=by rw[eT];omega
 have sY:(i:Int)<(Ls.length:Int):=by omega
 have rW:lb<w.heap.size:=eS _ _ p3;obtain⟨L,hL⟩:∃L,L=(ji Ls i).x:=⟨_,rfl⟩;rw[<-hL]at H24 yA VV HXB c3 hxl;obtain⟨lx,hlx⟩:∃lx,lx=L.length:=⟨_,rfl⟩;have HLX:=hid hlx;rw[<-hlx]at H24 yA VV HXB c3 hxl;have amf:lx<=1001:=by omega
 have agY:0<lx:=by omega
 generalize Ls.length=K at *;clear h T hv4 a4 a6 hi hi' hab hlo hxl hmem KZ HHP c3 hL hlx;go_enter func26,ntmps26;have HW2:=hid hw2;clear hw2;go_wp2_with (first | (go_at_call 62;refine(HB1.out _).mono ?_;rintro e w' ⟨rfl,rfl⟩));rw[<-HW2.out];go_loopw [8,9] (fun vb vk wr=>∃k:Nat,vk=.int .i64 k/\k<=lx/\vb=.int .i64 (iR L x k:Nat)/\wr=w2) (fun _ vk _=>lx - (intOf vk).toNat)
 case atStart=>exact⟨0,rfl,aH _,rfl,rfl⟩
 case round =>
  obtain⟨k,rfl,hk,rfl,hwr⟩:=hrel;obtain rfl:w2=wr:=hwr.symm;have p3':=oO.out;have c3:=yA.out;by_cases hlt:k<lx
  ·have sX:(k:Int)<(lx:Int):=by omega
   have qM:=hid (show iR L x k<lx by
    rcases aS k with h | h
    ·subst h;exact agY
    ·have:=r6 L x k h;omega)
   have HST:=hid (show iR L x (k+1)=if(nth L k - x).natAbs<(nth L (iR L x k) - x).natAbs then k else iR L x k from rfl);have c1:=VV.out k hlt;have c2:=VV.out _ qM.out;have b1:=HXB.out k hlt;have b2:=HXB.out _ qM.out;have hBI:((iR L x k:Nat):Int)<(lx:Int):=by have:=qM.out;omega
   obtain⟨B2,hB2⟩:∃B2,B2=iR L x (k+1):=⟨_,rfl⟩;rw[<-hB2]at HST;have Iq:=hid hB2;clear hB2;generalize iR L x k=B1 at *;generalize nth L k=y1 at *;generalize nth L B1=y2 at *;have H1:=hid (fun Y:World=>H64.out y1 Y ⟨b1.1,b1.2.2⟩);have H2:=hid (fun Y:World=>H64.out y2 Y ⟨b2.1,b2.2.2⟩);obtain⟨d1,hd1⟩:∃d1,d1=(y1 - x).natAbs:=⟨_,rfl⟩;obtain⟨d2,hd2⟩:∃d2,d2=(y2 - x).natAbs:=⟨_,rfl⟩;rw[<-hd1]at H1 HST;rw[<-hd2]at H2 HST;have HDB:=hid (show d1<18446744073709551616/\d2<18446744073709551616 by omega);clear hd1 hd2 b1 b2 H64;by_cases hc:d1<d2
   ·have hcI:(d1:Int)<(d2:Int):=by omega
    have HB2:=hid (show B2=k by rw[HST.out,ay hc]);clear HST;go_wp2_with fail;refine(H1.out _).mono ?_;rintro e w' ⟨rfl,hw'⟩;obtain rfl:w2=w':=hw'.symm;go_wp2_with fail;refine(H2.out _).mono ?_;rintro e w' ⟨rfl,hw'⟩;obtain rfl:w2=w':=hw'.symm;go_wp2;go_roundw
    case rel=>exact⟨k+1,by go_num,by omega,by rw[<-Iq.out,HB2.out],trivial⟩
    case measure=>simp[intOf];omega
   ·have hcI:¬(d1:Int)<(d2:Int):=by omega
    have hcd:decide ((d1:Int)<(d2:Int))=false:=by simpa using hcI
    have HB2:=hid (show B2=B1 by rw[HST.out,au hc]);clear HST;go_wp2_with fail;refine(H1.out _).mono ?_;rintro e w' ⟨rfl,hw'⟩;obtain rfl:w2=w':=hw'.symm;go_wp2_with fail;refine(H2.out _).mono ?_;rintro e w' ⟨rfl,hw'⟩;obtain rfl:w2=w':=hw'.symm;go_wp2;go_roundw
    case rel=>exact⟨k+1,by go_num,by omega,by rw[<-Iq.out,HB2.out],trivial⟩
    case measure=>simp[intOf];omega
  ·obtain rfl:k=lx:=by omega
   have sX:¬(k:Int)<(k:Int):=by omega
   go_wp2_with fail;refine(H24.out _ f_.out).mono ?_;rintro e w4 ⟨rfl,jl⟩;have gP:=hid jl;have jD:=hid (fO iG.out jl af);have z0:=fN jD.out (i:=0) (v:=.int .i64 0) rfl;have z1:=fN jD.out (i:=1) (v:=.bool false) rfl;have f0:=fT jD.out 0;have f1:=fT jD.out 1;clear jl;go_wp2_with fail;have qi:=hid (show((w4.setCell ⟨w.heap.size,0,none⟩ (.int .i64 a)).setCell ⟨w.heap.size,1,none⟩ (.bool b)).heap[w.heap.size]?=some (.cells #[.int .i64 a,.bool b] 55 (0,0))from fP (fP jD.out 0 _) 1 _);refine eU (eW (t:=55) (fr:=(0,0)) rfl _ _ w.heap.size _ _ rfl qi.out underlying55 rfl (by kernel_rfl)) rfl ?_;exact⟨rfl,(f_.out.trans gP.out).behind ((gH _ _ _ _).set (aj.2 rfl) _) (fun k hk=>by rw[aj.1 hk];exact ak _)⟩
end Go.Proofs.YtnakejhohdbfdaaGreatDoor
namespace Go.Proofs.YtnakejhohdbfdaaGreatDoor
open Go.RowKit jN Lay Go.Proofs.Tryz
theorem NP (l:List Int)(va vb:Value)(w:World)(ha:mA w va l)(hb:mA w vb l)(hl:l.length<=100000) :
 Calls prog 12 #[va,vb] w fun e w'=>e=.returned (.bool true)/\∃q,w'=w.drewN q:=by
 obtain⟨a,ca,rfl,ha⟩:=ha;obtain⟨b,cb,rfl,hb⟩:=hb;obtain⟨n,hn⟩:∃n,n=l.length:=⟨_,rfl⟩;rw[<-hn]at ha hb hl ⊢;have HA:=hid ha;have HB:=hid hb;clear ha hb hn;go_enter func12,ntmps12;go_wp2;go_loopw [5] (fun v wr=>∃i:Nat,v=.int .i64 i/\i<=n/\Hid (∃q,wr=w.drewN q)) (fun v _=>n - (intOf v).toNat)
 case atStart=>exact⟨0,rfl,aH _,hid ⟨0,rfl⟩⟩
 case round =>
  obtain⟨i,rfl,hin,HQ⟩:=hrel;have HF:=hid (show Fr [] w wr by obtain⟨q,h⟩:=HQ.out;rw[h];exact jr w q);by_cases hlt:i<n
  ·have sY:(i:Int)<(n:Int):=by omega
   obtain⟨ga,oa,rfl,ra⟩:=HA.out.resolve_left (by omega);obtain⟨gb,ob,rfl,rb⟩:=HB.out.resolve_left (by omega);have c1:=HF.out.cell (ra i hlt) af;have c2:=HF.out.cell (rb i hlt) af;generalize nth l i=y at *;clear ra rb;go_wp2;go_quiet (fail);go_wp2;go_roundw
   case rel=>exact⟨i+1,by go_num,by omega,hid (by obtain⟨q,h⟩:=HQ.out;exact⟨q+nq,by rw[h,World.drewN_drewN]⟩)⟩
   case measure=>simp[intOf];omega
  ·have sY:¬(i:Int)<(n:Int):=by omega
   go_wp2;go_ret;exact⟨rfl,HQ.out⟩
theorem vD (l:List Int)(va vb:Value)(w:World)(ha:mA w va l)(hb:mA w vb l)(hl:l.length<=100000) :
 Calls prog 12 #[va,vb] w fun e w'=>e=.returned (.bool true)/\Fr [] w w' :=
 (NP l va vb w ha hb hl).mono (fun _ _ h=>⟨h.1,by obtain⟨q,e⟩:=h.2;rw[e];exact jr w q⟩)
theorem Lf (s:ByteArray)(b:Int)(aW aB:Option Addr)(nW cW nB cB:Nat)(w:World)(h1:s.size<=4096)(h2:nW<=4096)(h3:nB<=4096) :
 Calls prog 13 #[.agg #[.string s,.int .i64 b,.slice aW nW cW,.slice aB nB cB]] w fun e w'=>e=.returned (.bool true)/\Fr [] w w':=by
 have h1':(s.size:Int)<=4096:=by omega
 have h2':(nW:Int)<=4096:=by omega
 have h3':(nB:Int)<=4096:=by omega
 go_enter func13,ntmps13;go_wp2;go_ret;exact⟨rfl,(Fr.refl [] w).alloc _⟩
theorem Y6 (s:ByteArray)(b:Int)(aW aB:Option Addr)(nW cW nB cB:Nat)(w:World)(h:¬(s.size<=4096/\nW<=4096/\nB<=4096)) :
 Calls prog 13 #[.agg #[.string s,.int .i64 b,.slice aW nW cW,.slice aB nB cB]] w fun e w'=>e=.returned (.bool false)/\Fr [] w w':=by
 by_cases h1:s.size<=4096
 ·have h1':(s.size:Int)<=4096:=by omega
  by_cases h2:nW<=4096
  ·have h2':(nW:Int)<=4096:=by omega
   have h3':¬(nB:Int)<=4096:=by omega
   have h4:decide ((nB:Int)<=4096)=false:=by simp;omega
   clear h;go_enter func13,ntmps13;go_wp2;go_ret;exact⟨rfl,(Fr.refl [] w).alloc _⟩
  ·have h2':¬(nW:Int)<=4096:=by omega
   have h4:decide ((nW:Int)<=4096)=false:=by simp;omega
   clear h;go_enter func13,ntmps13;go_wp2;go_ret;exact⟨rfl,(Fr.refl [] w).alloc _⟩
 ·have h1':¬(s.size:Int)<=4096:=by omega
  have h4:decide ((s.size:Int)<=4096)=false:=by simp;omega
  clear h;go_enter func13,ntmps13;go_wp2;go_ret;exact⟨rfl,(Fr.refl [] w).alloc _⟩
open uS
theorem sW {S:List Nat}{w w':World}{B e size n g c:Nat}{xs:List Value}(h:w.ownsRow B e size (.slice (some ⟨g,0,none⟩) n c) n xs)(hf:Fr S w w')(hg:g ∉ S):w'.ownsRow B e size (.slice (some ⟨g,0,none⟩) n c) n xs :=
 j_ h hf (fun k hk=>by cases hk;exact hg)
theorem EV {w:World}{ops:Array Oper}{rest:List Oper}{o:Oper}{a:Act}{Q:Exit->Act->World->Prop}(hgd:o.guard=none)(s x:Operand)
 (ho:o.op=.call { callee:=.builtin .append,args:=#[s,x],argTypes:=#[22,22] }) (base g0 n c0:Nat) (xs:List Value) (hs:a.eval s=.slice (some ⟨g0,0,none⟩) n c0) (hown:w.ownsRow base 3 1 (.slice (some ⟨g0,0,none⟩) n c0) n xs)
 (l:List Int) (vx:Value) (hx:a.eval x=vx) (hl:mT w vx l) (hnl:n+l.length<=100000) (hbase:base<=w.heap.size)
 (h:∀g c w',w'.ownsRow base 3 1 (.slice (some ⟨g,0,none⟩) (n+l.length) c) (n+l.length) (xs++gu l)->Fr [g0] w w'->wpList prog ops Q rest (a.put o.dst (.slice (some ⟨g,0,none⟩) (n+l.length) c)) w'):wpList prog ops Q (o :: rest) a w:=by
 obtain⟨i3,hi3,rQ,rS,hz32⟩:=e_ info3;obtain⟨ax,cx,rfl,hl⟩:=hl
 rcases hl with⟨rfl,rfl,h0⟩ | ⟨ad,rfl,hc⟩
 ·have hln:l=[]:=dX.1 h0
  subst hln;refine wpList_append_own_none hgd s x 22 ho base 3 i3 1 underlying22 hi3 _ n xs hs hown hx ?_;have h2:=h g0 c0 w;simp only[List.length_nil,Nat.add_zero]at h2;exact h2 (by simpa using hown) (Fr.refl _ _)
 ·refine eV _ hgd s x 22 ho base 3 i3 _ 1 8 underlying22 hi3 rQ rS hz32 rfl (by decide) _ n xs hs hown ad l.length cx (gu l) hx (by simp) (fun j u hu=>?_) (Db _) (by unfold maxLen;omega) (by omega) hbase ?_
  ·have hj:j<l.length:=by have:=(bg.1 hu).1;simpa using this
   rw[iJ hj]at hu;rw[hc j hj];exact hu
  ·intro v' w' hown' hg hnil
   rcases hown'.2 with⟨h5,_⟩ | ⟨g',c',cur,rfl,_⟩
   ·exact absurd (hnil.1 h5).1 (by simp)
   ·exact h g' c' w' hown' (Fr.kI hg)
theorem Di (s:ByteArray)(b:Int)(vW vB:Value)(W Br:List Int)(w:World)(hW:mT w vW W)(hB:mT w vB Br)(tJ:W.length<=5000)(hBl:Br.length<=5000) :
 Calls prog 51 #[.agg #[.string s,.int .i64 b,vW,vB]] w fun e w'=>∃gW cW gB cB,e=.returned (.agg #[.string s,.int .i64 b,.slice (some ⟨gW,0,none⟩) W.length cW,.slice (some ⟨gB,0,none⟩) Br.length cB]) /\
  w'.ownsRow w.heap.size 3 1 (.slice (some ⟨gW,0,none⟩) W.length cW) W.length (gu W)/\w'.ownsRow w.heap.size 3 1 (.slice (some ⟨gB,0,none⟩) Br.length cB) Br.length (gu Br)/\gW<gB/\Fr [] w w':=by
 obtain⟨aW,xG,rfl,_⟩:=id hW;obtain⟨aB,cB0,rfl,_⟩:=id hB;have HW:=hid hW;have HB:=hid hB;obtain⟨nW,Jn⟩:∃nW,nW=W.length:=⟨_,rfl⟩;obtain⟨nB,yK⟩:∃nB,nB=Br.length:=⟨_,rfl⟩;have Oo:=hid Jn;have sU:=hid yK;rw[<-Jn]at tJ ⊢;rw[<-yK]at hBl ⊢;clear hW hB Jn yK;obtain⟨w2,hw2⟩:∃w2,w2=((w.alloc (.cells #[.string s,.int .i64 b,.slice aW nW xG,.slice aB nB cB0] 35)).alloc (.cells #[.string ⟨#[]⟩,.int .i64 0,.slice none 0 0,.slice none 0 0] 35)).alloc (.cells #[] 3):=⟨_,rfl⟩;have f_:=hid (show Fr [] w w2 by rw[hw2];exact(((Fr.refl [] w).alloc _).alloc _).alloc _);have HA2:=hid (show w2.heap[w.heap.size]?=some (.cells #[.string s,.int .i64 b,.slice aW nW xG,.slice aB nB cB0] 35 (0,0)) by rw[hw2];exact fO (fU w _) (((Fr.refl [] _).alloc _).alloc _) af)
 have HZ2:=hid (show w2.heap[w.heap.size+1]?=some (.cells #[.string ⟨#[]⟩,.int .i64 0,.slice none 0 0,.slice none 0 0] 35 (0,0)) by
  have h:=fO (fU (w.alloc (.cells #[.string s,.int .i64 b,.slice aW nW xG,.slice aB nB cB0] 35)) (.cells #[.string ⟨#[]⟩,.int .i64 0,.slice none 0 0,.slice none 0 0] 35)) ((Fr.refl [] _).alloc (.cells #[] 3)) af
  rw[<-hw2]at h;simpa using h)
 have HE2:=hid (show w2.heap[w.heap.size+1+1]?=some (.cells #[] 3 (0,0)) by
  have h:=fU ((w.alloc (.cells #[.string s,.int .i64 b,.slice aW nW xG,.slice aB nB cB0] 35)).alloc (.cells #[.string ⟨#[]⟩,.int .i64 0,.slice none 0 0,.slice none 0 0] 35)) (.cells #[] 3)
  rw[<-hw2]at h;simpa using h)
 have hz2:w2.heap.size=w.heap.size+3:=by rw[hw2];simp
 have HW2:=hid hw2;clear hw2;go_enter func51,ntmps51;go_wp2_with (at_builtin;refine EV rfl _ _ rfl (w.heap.size+1+1) _ _ _ [] rfl ?own W _ rfl ?sl ?len ?le ?_)
 case own=>rw[<-HW2.out];exact⟨rfl,.inr ⟨_,0,#[],rfl,by omega,HE2.out,ak _,aH _,rfl,rfl⟩⟩
 case sl =>
  rw[<-HW2.out];have h:=HW.out.fr f_.out;rw[<-Oo.out]at h;exact h
 case len=>rw[<-Oo.out];omega
 case le=>rw[<-HW2.out];omega
 rw[<-HW2.out];intro gW cW w3 gM hf3;rw[<-Oo.out]at gM;rw[<-Oo.out];have hgW:=fZ gM;have k9:=hid gM;have iO:=hid hf3;have Eu:=hid (fO HA2.out hf3 (fun h=>by have:=aj.1 h;omega));have HZ3:=hid (fO HZ2.out hf3 (fun h=>by have:=aj.1 h;omega));have hz3:=hf3.size;have k2:=fN Eu.out (i:=2) (v:=.slice aW nW xG) rfl;have k3:=fN Eu.out (i:=3) (v:=.slice aB nB cB0) rfl;have f2:=fT Eu.out 2;have f3:=fT Eu.out 3;have hlt3:w.heap.size<w3.heap.size:=by omega
 clear gM hf3;obtain⟨w4,hw4⟩:∃w4,w4=(w3.setCell ⟨w.heap.size,2,none⟩ (.slice (some ⟨gW,0,none⟩) nW cW)).alloc (.cells #[] 3):=⟨_,rfl⟩;have gP:=hid (show Fr [w.heap.size] w3 w4 by rw[hw4];exact(gH _ _ _ _).alloc _);have ZJ:=hid (show w4.heap[w.heap.size]?=some (.cells #[.string s,.int .i64 b,.slice (some ⟨gW,0,none⟩) nW cW,.slice aB nB cB0] 35 (0,0)) by rw[hw4];exact fO (fP Eu.out 2 _) ((Fr.refl [] _).alloc _) af);have AM:w4.heap.size=w3.heap.size+1:=by rw[hw4];simp
 have KO:=hid (show w4.heap[w3.heap.size]?=some (.cells #[] 3 (0,0)) by
  have h:=fU (w3.setCell ⟨w.heap.size,2,none⟩ (.slice (some ⟨gW,0,none⟩) nW cW)) (.cells #[] 3)
  rw[<-hw4]at h;simpa using h)
 have oQ:=hid hw4;clear hw4;have acO:=hid (show Fr [] w w4 from(f_.out.behind iO.out (fun k hk=>by rw[aj.1 hk];omega)).behind gP.out (fun k hk=>by rw[aj.1 hk];exact ak _));go_wp2_with (at_builtin;refine EV rfl _ _ rfl w3.heap.size _ _ _ [] rfl ?own Br _ rfl ?sl ?len ?le ?_)
 case own=>rw[<-oQ.out];exact⟨rfl,.inr ⟨_,0,#[],rfl,ak _,KO.out,ak _,aH _,rfl,rfl⟩⟩
 case sl =>
  rw[<-oQ.out];have h:=HB.out.fr acO.out;rw[<-sU.out]at h;exact h
 case len=>rw[<-sU.out];omega
 case le=>rw[<-oQ.out];omega
 rw[<-oQ.out];intro gB cB w5 qx jC;rw[<-sU.out]at qx;rw[<-sU.out];have hgB:=fZ qx;have qZ:=hid qx;have jP:=hid jC;have agZ:=hid (show Fr [] w w5 from acO.out.behind jC (fun k hk=>by rw[aj.1 hk];omega));have WX:=hid (fO ZJ.out jC (fun h=>by have:=aj.1 h;omega));have VW:=hid (fO (fO HZ3.out gP.out (fun h=>by have:=aj.1 h;omega)) jC (fun h=>by have:=aj.1 h;omega));have ag0:=hid (sW (sW k9.out gP.out (fun h=>by have:=aj.1 h;omega)) jC (fun h=>by have:=aj.1 h;omega));clear qx jC k2 k3 f2 f3;have k0:=fN WX.out (i:=0) (v:=.string s) rfl;have k1:=fN WX.out (i:=1) (v:=.int .i64 b) rfl;have k2:=fN WX.out (i:=2) (v:=.slice (some ⟨gW,0,none⟩) nW cW) rfl;have k3:=fN WX.out (i:=3) (v:=.slice aB nB cB0) rfl;have f3:=fT WX.out 3;have z0:=fN VW.out (i:=0) (v:=.string ⟨#[]⟩) rfl;have z1:=fN VW.out (i:=1) (v:=.int .i64 0) rfl;have z2:=fN VW.out (i:=2) (v:=.slice none 0 0) rfl;have z3:=fN VW.out (i:=3) (v:=.slice none 0 0) rfl;have y0:=fT VW.out 0;have y1:=fT VW.out 1;have y2:=fT VW.out 2;have y3:=fT VW.out 3;obtain⟨w6,nu⟩:∃w6,w6=w5.setCell ⟨w.heap.size,3,none⟩ (.slice (some ⟨gB,0,none⟩) nB cB):=⟨_,rfl⟩;have s_:=hid (show Fr [w.heap.size] w5 w6 by rw[nu];exact gH _ _ _ _);have HZ6:=hid (fO VW.out s_.out (fun h=>by have:=aj.1 h;omega));obtain⟨w7,hw7⟩:∃w7,w7=(((w6.setCell ⟨w.heap.size+1,0,none⟩ (.string s)).setCell ⟨w.heap.size+1,1,none⟩ (.int .i64 b)).setCell ⟨w.heap.size+1,2,none⟩ (.slice (some ⟨gW,0,none⟩) nW cW)).setCell ⟨w.heap.size+1,3,none⟩ (.slice (some ⟨gB,0,none⟩) nB cB):=⟨_,rfl⟩;have HZ7:=hid (show w7.heap[w.heap.size+1]?=some (.cells #[.string s,.int .i64 b,.slice (some ⟨gW,0,none⟩) nW cW,.slice (some ⟨gB,0,none⟩) nB cB] 35 (0,0)) by rw[hw7];exact fP (fP (fP (fP HZ6.out 0 _) 1 _) 2 _) 3 _);have m7:=hid (show Fr [w.heap.size+1] w6 w7 by rw[hw7];exact(((gH _ _ _ _).set (aj.2 rfl) _).set (aj.2 rfl) _).set (aj.2 rfl) _);have AX:=hid nu;have Av:=hid hw7;clear nu hw7;go_wp2_with fail;rw[<-AX.out,<-Av.out];refine eU (eW (t:=35) (fr:=(0,0)) rfl _ _ (w.heap.size+1) _ _ rfl HZ7.out underlying35 rfl (by kernel_rfl)) rfl ?_;refine⟨gW,cW,gB,cB,rfl,?_,?_,by omega,?_⟩
 ·exact gY (sW (sW ag0.out s_.out (fun h=>by have:=aj.1 h;omega)) m7.out (fun h=>by have:=aj.1 h;omega)) (by omega)
 ·exact gY (sW (sW qZ.out s_.out (fun h=>by have:=aj.1 h;omega)) m7.out (fun h=>by have:=aj.1 h;omega)) (by omega)
 ·exact(agZ.out.behind s_.out (fun k hk=>by rw[aj.1 hk];exact ak _)).behind m7.out (fun k hk=>by rw[aj.1 hk];omega)
theorem Bf {w:World}{B g c:Nat}{l:List Int}(h:w.ownsRow B 3 1 (.slice (some ⟨g,0,none⟩) l.length c) l.length (gu l)):mT w (.slice (some ⟨g,0,none⟩) l.length c) l :=
 ⟨_,_,rfl,.inr ⟨_,rfl,fun i hi=>by
  rw[Addr.add_lit,c_,h.cellAt i (by omega),iJ hi]⟩⟩
theorem SJ (s:ByteArray)(b:Int)(vW vB:Value)(W Br:List Int)(n:Nat)(w:World)(hF:Floor w)(hend:gJ.Ends s n)(hW:mT w vW W)(hB:mT w vB Br)(tJ:W.length<=5000)(hBl:Br.length<=5000)(hck:tu s n (iY s n) b W Br≠0) :
 Calls prog 14 #[.agg #[.string s,.int .i64 b,vW,vB]] w fun e w'=>e=.returned (.tuple #[.pointer none,.pointer none,.bool true])/\Fr [] w w':=by
 obtain⟨aW,xG,rfl,_⟩:=id hW;obtain⟨aB,cB0,rfl,_⟩:=id hB;obtain⟨x,hx⟩:∃x,x=tu s n (iY s n) b W Br:=⟨_,rfl⟩;obtain⟨wb,hwb⟩:∃wb,wb=w.alloc (.cells #[.string s,.int .i64 b,.slice aW W.length xG,.slice aB Br.length cB0] 35):=⟨_,rfl⟩;have nD:=hid (show Fr [] w wb by rw[hwb];exact(Fr.refl [] w).alloc _);have Lg:=hid (show wb.heap[w.heap.size]?=some (.cells #[.string s,.int .i64 b,.slice aW W.length xG,.slice aB Br.length cB0] 35 (0,0)) by rw[hwb];exact fU w _);have Y7:=hid (Di s b _ _ W Br wb (hW.fr nD.out) (hB.fr nD.out) tJ hBl);have Ag:=hid (fun(X:World) (hf:Fr [] w X)=>hF.fr hf);have HW:=hid hW;have HB:=hid hB;have Qf:=hid (fun(X:World) (hf:Fr [] w X) vW vB hW hB=>VL s b vW vB W Br n X (hF.fr hf) hend hW tJ hB hBl);have Ov:=hid (fun(X:World) (hf:Fr [] w X)=>Lc s b _ _ W Br n X (hF.fr hf).u hend (hW.at.fr hf) tJ (hB.at.fr hf) hBl);have HIW:=hid (fun(X:World) (hf:Fr [] w X) v (hv:mA X v W)=>vD W v _ X hv (hW.at.fr hf) (by omega));have PR:=hid (fun(X:World) (hf:Fr [] w X) v (hv:mA X v Br)=>vD Br v _ X hv (hB.at.fr hf) (by omega));rw[<-hx]at Qf Ov hck;obtain⟨nW,Jn⟩:∃nW,nW=W.length:=⟨_,rfl⟩;obtain⟨nB,yK⟩:∃nB,nB=Br.length:=⟨_,rfl⟩;have Oo:=hid Jn;have sU:=hid yK;rw[<-Jn]at Lg Y7 HIW Ov hwb tJ ⊢;rw[<-yK]at Lg Y7 PR Ov hwb hBl ⊢;have HX:=hid hck;have hx2:(x == 0)=false:=by simp[hck]
 have hx3:(x != 0)=true:=by simp[hck]
 clear hW hB hF hx hend Jn yK;go_enter func14,ntmps14;go_wp2_with fail;rw[<-hwb];clear hwb;refine Y7.out.mono ?_;rintro e w1 ⟨gW,cW,gB,cB,rfl,Ka,ownB,hgg,hf1⟩;obtain⟨w2,hw2⟩:∃w2,w2=w1.alloc (.cells #[.string s,.int .i64 b,.slice (some ⟨gW,0,none⟩) nW cW,.slice (some ⟨gB,0,none⟩) nB cB] 35):=⟨_,rfl⟩;have f_:=hid (show Fr [] w w2 by rw[hw2];exact(nD.out.trans hf1).alloc _);have kT:=hid (show w2.heap[w.heap.size]?=some (.cells #[.string s,.int .i64 b,.slice aW nW xG,.slice aB nB cB0] 35 (0,0)) by rw[hw2];exact fO Lg.out (hf1.alloc _) af);have qZ:=hid (show w2.heap[w1.heap.size]?=some (.cells #[.string s,.int .i64 b,.slice (some ⟨gW,0,none⟩) nW cW,.slice (some ⟨gB,0,none⟩) nB cB] 35 (0,0)) by rw[hw2];exact fU w1 _)
 have DB:=hid (show mT w2 (.slice (some ⟨gW,0,none⟩) nW cW) W by
  have h:=fS (w':=w2) Ka (by rw[hw2];exact(Fr.refl [] _).alloc _)
  rw[Oo.out]at h ⊢
  exact Bf h)
 have Is:=hid (show mT w2 (.slice (some ⟨gB,0,none⟩) nB cB) Br by
  have h:=fS (w':=w2) ownB (by rw[hw2];exact(Fr.refl [] _).alloc _)
  rw[sU.out]at h ⊢
  exact Bf h)
 have H52:=hid (Sl #[.string s,.int .i64 b,.slice (some ⟨gW,0,none⟩) nW cW,.slice (some ⟨gB,0,none⟩) nB cB] s b x (some ⟨gW,0,none⟩) (some ⟨gB,0,none⟩) nW cW nB cB w2 (Ag.out w2 f_.out) rfl (fun w' hf=>by
  refine(Qf.out w' (f_.out.trans hf) _ _ (DB.out.at.fr hf) (Is.out.at.fr hf)).mono ?_
  rintro e w'' ⟨v,rfl,hv,hf2⟩
  rcases hv with h | h
  ·exact absurd h.2 HX.out
  ·exact⟨v,rfl,h.2,hf2⟩))
 have ZR:=hid hw2;have hw1:w.heap.size<w1.heap.size:=by have:=h_ Lg.out;have:=hf1.size;omega
 clear Ka ownB hf1 hw2 hck;go_wp2_with fail;rw[<-ZR.out];refine H52.out.mono ?_;rintro e w3 ⟨rfl,hf3⟩;have iO:=hid (f_.out.trans hf3);have AW:=hid (fO kT.out hf3 af);have Ic:=hid (fO qZ.out hf3 af);have k2:=fN AW.out (i:=2) (v:=.slice aW nW xG) rfl;have k3:=fN AW.out (i:=3) (v:=.slice aB nB cB0) rfl;have j2:=fN Ic.out (i:=2) (v:=.slice (some ⟨gW,0,none⟩) nW cW) rfl;have j3:=fN Ic.out (i:=3) (v:=.slice (some ⟨gB,0,none⟩) nB cB) rfl;have Y8:=hid (Is.out.at.fr hf3);have H12:=hid (HIW.out w3 iO.out _ (DB.out.at.fr hf3));clear hf3 H52;go_wp2_with fail;refine H12.out.mono ?_;rintro e w4 ⟨rfl,jl⟩;have gP:=hid (iO.out.trans jl);have SK:=hid (fO AW.out jl af);have Y9:=hid (fO Ic.out jl af);have k3:=fN SK.out (i:=3) (v:=.slice aB nB cB0) rfl;have j3:=fN Y9.out (i:=3) (v:=.slice (some ⟨gB,0,none⟩) nB cB) rfl;have SL:=hid (PR.out w4 gP.out _ (Y8.out.fr jl));clear jl H12;go_wp2_with fail;refine SL.out.mono ?_;rintro e w5 ⟨rfl,jC⟩;have jP:=hid (gP.out.trans jC);have DZ:=hid (fO SK.out jC af);have l0:=fN DZ.out (i:=0) (v:=.string s) rfl;have l1:=fN DZ.out (i:=1) (v:=.int .i64 b) rfl;have l2:=fN DZ.out (i:=2) (v:=.slice aW nW xG) rfl;have l3:=fN DZ.out (i:=3) (v:=.slice aB nB cB0) rfl;have H53:=hid (Ov.out w5 jP.out);clear jC SL;go_wp2_with fail;refine H53.out.mono ?_;rintro e w6 ⟨rfl,jo⟩;have s_:=hid (jP.out.trans jo);clear jo H53;go_wp2_with fail;go_ret3;exact⟨rfl,s_.out⟩
end Go.Proofs.YtnakejhohdbfdaaGreatDoor

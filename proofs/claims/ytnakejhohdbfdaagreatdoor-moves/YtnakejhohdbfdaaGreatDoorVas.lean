import Derived.Test.YtnakejhohdbfdaaGreatDoorVac
set_option maxHeartbeats 4000000
set_option maxRecDepth 10000
namespace Go.Proofs.YtnakejhohdbfdaaGreatDoor
open Go.RowKit jN Go.Proofs.Tryz
theorem QT (K:List Int)(I:List Nat)(v:Int)(f j:Nat)(C:List Int)(h:I.length<=j+f)(hj:j<I.length)(h8:nth K (fX I j)=8) :
 ∃f',I.length<=j+1+f'/\lW K I v f j C=lW K I v f' (j+1) (put I C j v):=by
 cases f with
 | zero=>omega
 | succ f=>exact⟨f,by omega,by rw[lW,ay ⟨hj,h8⟩]⟩
theorem G1 (K:List Int)(I:List Nat)(v:Int)(f j:Nat)(C:List Int)(h:¬(j<I.length/\nth K (fX I j)=8)):lW K I v f j C=C:=by
 cases f with
 | zero=>rfl
 | succ f=>rw[lW,au h]
theorem pT (q:PH)(C L:List Int)(G:List Bool)(bI cI:Nat)(s:Sq)(k:Nat)(v:Int)(w:World)(hs:PS w q C L G)(hI:IS w q bI s.I)(hk:k<s.I.length) :
 Calls prog 93 #[.pointer (some ⟨q.p,0,none⟩),Ee bI cI s,.int .i64 k,.int .i64 v] w fun e w'=>e=.returned (.tuple #[])/\PS w' q (become q.K s.I k v C) L G/\Fr [q.bC] w w':=by
 have c2:=hs.c2;have lp:=hs.lt;have rI:=hI.r k hk;have hlt:=hI.lt k hk;have rC:=hs.rC _ hlt;have lI:=eS _ _ rI;have lC:=eS _ _ rC;have fC:=hs.sC _ hlt;have nC:=hs.Im.1;have nI:=hI.ne.1;have sm:=hI.sm;obtain⟨I,own,iq,jR⟩:=s;dsimp only[Ee]at *;have HS:=hid hs;have HI:=hid hI;obtain⟨R,hR⟩:∃R,R=become q.K I k v C:=⟨_,rfl⟩;have HR:=hid hR;rw[<-hR];obtain⟨m,hm⟩:∃m,m=I.length:=⟨_,rfl⟩;have HM:=hid hm;have HI1:=hid ((HS.out.oX hlt v).alloc (.cells #[.slice (some ⟨bI,0,none⟩) m cI,.int .i64 own,.int .i64 iq,.int .i64 jR] 101)).drew;have iy:=hid ((((Fr.refl [q.bC] w).set (i:=fX I k) (aj.2 rfl) (.int .i64 v)).alloc (.cells #[.slice (some ⟨bI,0,none⟩) m cI,.int .i64 own,.int .i64 iq,.int .i64 jR] 101)).drew);rw[<-hm];have hk2:k<m:=by rw[hm];exact hk
 have sm2:m<=1000000:=by rw[hm];exact sm
 clear hm hR hk sm;generalize hi:fX I k=i at *;have QU:=hid hi;generalize nth C i=y at *;clear hs hI hi;go_enter func93,ntmps93;go_wp2;go_region;go_wp2
 have HX0:=hid (show(((w.setCell ⟨q.bC,i,none⟩ (.int .i64 v)).alloc (.cells #[.slice (some ⟨bI,0,none⟩) m cI,.int .i64 own,.int .i64 iq,.int .i64 jR] 101)).drew).cell? ⟨w.heap.size,0,none⟩=some (.slice (some ⟨bI,0,none⟩) m cI) by
  rw[World.cell?_drew,eZ _ _ _ _ (by simp)];rfl)
 go_loopw [8] (fun a wr=>∃(j f:Nat) (C':List Int),a=.int .i64 j/\j<=m/\Hid (m<=j+f)/\Hid (R=lW q.K I v f j C')/\Hid (PS wr q C' L G)/\Hid (Fr [q.bC] w wr)/\wr.cell? ⟨w.heap.size,0,none⟩=some (.slice (some ⟨bI,0,none⟩) m cI)) (fun a _=>m - (intOf a).toNat)
 case atStart =>
  exact⟨k+1,m,_,by go_num,by omega,hid (by omega),hid (by rw[HR.out,become,<-HM.out,<-QU.out]),HI1,iy,HX0.out⟩
 case round =>
  obtain⟨j,f,C',rfl,hj,HF,HRR,HP,Aj,hx⟩:=hrel;have d1:=HP.out.c1;have d2:=HP.out.c2;have lp2:=HP.out.lt;by_cases hlt2:j<m
  ·have e1:=(HI.out.fr Aj.out (fun h=>nI (aj.1 h))).r j (by rw[<-HM.out];exact hlt2)
   have hb:=HI.out.lt j (by rw[<-HM.out];exact hlt2);have e2:=HP.out.rF _ hb;have e3:=HP.out.rC _ hb;have e4:=HP.out.sC _ hb;have hi1:(j:Int)<(m:Int):=by omega
   have H8:=hid (QT q.K I v f j C' (by rw[<-HM.out];exact HF.out) (by rw[<-HM.out];exact hlt2));have H9:=hid (G1 q.K I v f j C');have Ip:=hid (fun z=>(HP.out.oX hb z));generalize hij:fX I j=ij at *;have HIJ:=hid hij;clear hij;generalize nth q.K ij=y8 at *;generalize nth C' ij=yc at *;by_cases h8:y8=8
   ·subst h8
    go_wp2;go_quiet (fail);go_wp2;go_region;go_wp2;obtain⟨f',hf',he⟩:=H8.out trivial;go_roundw
    case rel=>exact⟨j+1,f',_,by go_num,by omega,hid (by rw[HM.out];exact hf'),hid (HRR.out.trans he),hid (by rw[put,HIJ.out];exact(Ip.out v).drewN _ |>.drew),hid (((Aj.out.set (aj.2 rfl) _).drewN _).drew),by rw[cell_far _ _ _ _ _ _ (by omega)];exact hx⟩
    case measure=>simp[intOf];omega
   ·go_wp2
    go_quiet (fail);go_wp2;go_end0;exact⟨rfl,by rw[HRR.out,H9.out (fun h=>h8 h.2)];exact HP.out.drewN _,Aj.out.drewN _⟩
  ·have hi1:decide ((j:Int)<(m:Int))=false:=by simp;omega
   go_wp2;go_quiet (fail);go_wp2;go_end0;exact⟨rfl,by rw[HRR.out,G1 _ _ _ _ _ _ (fun h=>hlt2 (by rw[HM.out];exact h.1))];exact HP.out.drewN _,Aj.out.drewN _⟩
theorem JD (K C:List Int)(base:Int)(i:Nat)(L:List Int):gU K C base (i+1) L =
 if gone (nth K i)then((gU K C base i L).1,(gU K C base i L).2.set i (gU K C base i L).1)
 else(nth (gU K C base i L).2 i+up (nth (gU K C base i L).2 i) (nth C i),(gU K C base i L).2.set i (nth (gU K C base i L).2 i+up (nth (gU K C base i L).2 i) (nth C i))):=rfl
theorem QV (l c:Int):(l % 2=1->(c=0\/c=3\/c=6)->up l c=1)/\(l % 2=1->¬(c=0\/c=3\/c=6)->up l c=0) /\
 (¬l % 2=1->c=1->up l c=1)/\(¬l % 2=1->(c=3\/c=6)->up l c=2)/\(¬l % 2=1->¬c=1->¬(c=3\/c=6)->up l c=0):=by
 refine⟨fun h k=>?_,fun h k=>?_,fun h k=>?_,fun h k=>?_,fun h k j=>?_⟩
 ·rw[up,ay h,ay k]
 ·rw[up,ay h,au k]
 ·rw[up,au h,ay k]
 ·rw[up,au h,au (by omega),ay k]
 ·rw[up,au h,au k,au j]
def small (L:List Int):Prop:=∀i,0<=nth L i/\nth L i<=1000
theorem zl (q:PH)(C L:List Int)(G:List Bool)(w:World)(hs:PS w q C L G)(hn:q.n<=1000000)(hG:∀i,i<q.n->G[i]?.getD false=gone (nth q.K i))(hL:small L) :
 Calls prog 50 #[.pointer (some ⟨q.p,0,none⟩)] w fun e w'=>e=.returned (.tuple #[])/\PS w' q C (gU q.K C q.base q.n L).2 G/\Fr [q.bL] w w':=by
 have c6:=hs.c6;have HS:=hid hs;have HL:=hid hL;have HG:=hid hG;clear hs hL hG;go_enter func50,ntmps50;go_wp2;go_loopw [2,3] (fun a b wr=>∃(i:Nat),a=.int .i64 (gU q.K C q.base i L).1/\b=.int .i64 i/\i<=q.n/\Hid (PS wr q C (gU q.K C q.base i L).2 G)/\Hid (Fr [q.bL] w wr)/\Hid (∀j,i<=j->nth (gU q.K C q.base i L).2 j=nth L j)) (fun _ b _=>q.n - (intOf b).toNat)
 case atStart=>exact⟨0,rfl,rfl,aH _,HS,hid (Fr.refl _ _),hid (fun _ _=>rfl)⟩
 case round =>
  obtain⟨i,rfl,rfl,hi,HP,HF,HK⟩:=hrel;have d2:=HP.out.c2;by_cases hlt:i<q.n
  ·have d3:=HP.out.c3
   have d5:=HP.out.c5;have e1:=HP.out.rG i hlt;rw[HG.out i hlt]at e1;have e2:=HP.out.rC i hlt;have e3:=HP.out.rL i hlt;have e4:=HP.out.sL i hlt;have hb:=HL.out i;rw[<-HK.out i (ak _)]at hb;have HST:=hid (JD q.K C q.base i L);have IB:=hid (fun z=>HP.out.DH hlt z);have sZ:=hid HP.out.lL;generalize hR':gU q.K C q.base (i+1) L=R' at HST;have ZP:=hid hR';clear hR';generalize gU q.K C q.base i L=R at *;obtain⟨r1,r2⟩:=R;dsimp only at *;generalize hl:nth r2 i=l at *;generalize nth C i=c at *;have HRL:=hid hl;clear hl;have nL:=HP.out.Ok.1;cases hg:gone (nth q.K i)
   ·rw[hg]at HST e1
    have vH:=hid (show R'=(l+up l c,r2.set i (l+up l c)) by have:=HST.out;simpa using this);clear HST;have hup:=hid (QV l c);generalize up l c=u at *;clear hg;have Ou:=hid (fun(z:Int) (h:u=z)=>(show R'=(l+z,r2.set i (l+z)) by rw[vH.out,h]));clear vH;go_wp2
    all_goals go_region
    all_goals go_wp2
    all_goals first
     | (have hz:u=1:=by have h:=hup.out;simp only[beq_iff_eq,aF,ne_eq]at *;omega
        obtain hz2:=Ou.out _ hz)
     | (have hz:u=0:=by have h:=hup.out;simp only[beq_iff_eq,aF,ne_eq]at *;omega
        obtain hz2:=Ou.out _ hz)
     | (have hz:u=2:=by have h:=hup.out;simp only[beq_iff_eq,aF,ne_eq]at *;omega
        obtain hz2:=Ou.out _ hz)
    all_goals (
     go_roundw
     case rel=>exact⟨i+1,by rw[ZP.out,hz2] <;> first | rfl | (congr 1;omega),by go_num,by omega,hid (by rw[ZP.out,hz2];first | exact(IB.out _).drew | (rw[show l+0=l by omega];exact(IB.out _).drew)),hid ((HF.out.set (aj.2 rfl) _).drew),hid (fun j hj=>by rw[ZP.out,hz2,sJ _ _ _ _ (by rw[sZ.out];exact hlt),au (by omega)];exact HK.out j (by omega))⟩
     case measure=>simp[intOf];omega)
   ·rw[hg]at HST e1
    have vH:=hid (show R'=(r1,r2.set i r1) by have:=HST.out;simpa using this);clear HST hg nL;go_wp2;go_roundw
    case rel=>exact⟨i+1,by rw[ZP.out,vH.out],by go_num,by omega,hid (by rw[ZP.out,vH.out];exact IB.out r1),hid (HF.out.set (aj.2 rfl) _),hid (fun j hj=>by rw[ZP.out,vH.out,sJ _ _ _ _ (by rw[sZ.out];exact hlt),au (by omega)];exact HK.out j (by omega))⟩
    case measure=>simp[intOf];omega
  ·have hi2:i=q.n:=by omega
   have mO:=hid (show PS wr q C (gU q.K C q.base q.n L).2 G by rw[<-hi2];exact HP.out);clear hi2;go_wp2;go_end0;exact⟨rfl,mO.out,HF.out⟩
end Go.Proofs.YtnakejhohdbfdaaGreatDoor

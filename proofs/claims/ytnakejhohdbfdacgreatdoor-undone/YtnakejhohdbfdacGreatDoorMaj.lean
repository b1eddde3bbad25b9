import Derived.Test.YtnakejhohdbfdacGreatDoorMag
set_option maxHeartbeats 4000000
set_option linter.unusedSimpArgs false
namespace Go.Proofs.YtnakejhohdbfdacGreatDoor
open Go.RowKit j9 Go.Proofs.Tryz
theorem xN (c:Int)(w:World):Calls prog 202 #[.int .i64 c] w fun e w'=>e=.returned (.bool (mh c))/\w'=w:=by
 go_enter func202,ntmps202;go_wp2
 all_goals go_ret
 all_goals refine⟨tF ?_,rfl⟩
 all_goals simp[mh, *]
theorem Ci (c:Int)(w:World):Calls prog 198 #[.int .i64 c] w fun e w'=>e=.returned (.bool (mh c || c == 22))/\w'=w:=by
 generalize hi:mh c=b;have HI:=hid hi;clear hi;cases b
 all_goals (
  go_enter func198,ntmps198
  go_wp2_with (go_at_call 202;refine(xN _ _).mono ?_;rintro e w' ⟨rfl,rfl⟩;rw[HI.out]))
 all_goals go_ret
 all_goals refine⟨tF ?_,rfl⟩
 all_goals simp
theorem xO (c:Int)(w:World):Calls prog 196 #[.int .i64 c] w fun e w'=>e=.returned (.bool (gone c))/\w'=w:=by
 have HG:=hid (show gone c=decide (c=9\/c=14\/c=15\/c=16\/c=17\/c=18) by unfold gone;simp[Bool.decide_or,Bool.or_assoc];rfl);generalize gone c=g at *;go_enter func196,ntmps196;go_wp2
 all_goals go_ret
 all_goals refine⟨tF ?_,rfl⟩
 all_goals (rw[HG.out];simp only[eR,aQ,ne_eq]at *;first | (rw[bQ (by omega)];done) | (rw[bS (by omega)];done))
theorem Pa (c:Int)(w:World):Calls prog 192 #[.int .i64 c] w fun e w'=>e=.returned (.bool (yS c))/\w'=w:=by
 have HG:=hid (show yS c=decide (c=10\/c=11\/c=12\/c=13\/c=19\/c=20\/c=21\/c=22) by unfold yS;simp[Bool.decide_or,Bool.or_assoc];rfl);generalize yS c=g at *;go_enter func192,ntmps192;go_wp2
 all_goals go_ret
 all_goals refine⟨tF ?_,rfl⟩
 all_goals (rw[HG.out];simp only[eR,aQ,ne_eq]at *;first | (rw[bQ (by omega)];done) | (rw[bS (by omega)];done))
theorem xP (c:Int)(w:World):Calls prog 187 #[.int .i64 c] w fun e w'=>e=.returned (.int .i64 (side c))/\w'=w:=by
 go_enter func187,ntmps187;go_wp2
 all_goals go_ret
 all_goals refine⟨BC ?_,rfl⟩
 all_goals (simp only[eR,aQ,ne_eq]at *;(try subst c);simp[side, *])
theorem Pb (r:Int)(w:World):Calls prog 210 #[.int .i32 r] w fun e w'=>e=.returned (.int .i32 (j6 r))/\w'=w:=by
 go_enter func210,ntmps210;go_wp2
 all_goals go_ret
 all_goals refine⟨BC ?_,rfl⟩
 all_goals (simp only[eR,aQ,ne_eq]at *;(try subst r);simp[j6, *])
theorem Pc (c:Int)(w:World):Calls prog 206 #[.int .i64 c] w fun e w'=>e=.returned (.int .i64 (Du c))/\w'=w:=by
 go_enter func206,ntmps206;go_wp2
 all_goals go_ret
 all_goals refine⟨BC ?_,rfl⟩
 all_goals (simp only[eR,aQ,ne_eq]at *;(try subst c);simp[Du, *])
theorem Cj (b:Bool)(w:World):Calls prog 165 #[.bool b] w fun e w'=>e=.returned (.int .i64 (if b then 1 else 0))/\w'=w:=by
 cases b
 all_goals (
  go_enter func165,ntmps165
  go_wp2
  go_ret
  exact⟨rfl,rfl⟩)
theorem Pd (c:Int)(w:World):Calls prog 209 #[.int .i64 c] w fun e w'=>e=.returned (.bool (ED c))/\w'=w:=by
 go_enter func209,ntmps209;go_wp2
 all_goals go_ret
 all_goals exact⟨tF rfl,rfl⟩
theorem Ck (l b:Int)(w:World)(hl:0<=l):Calls prog 173 #[.int .i64 l,.int .i64 b] w fun e w'=>e=.returned (.int .i64 (way (max l b)))/\w'=w:=by
 have HW:=hid (show way (max l b)=if max l b % 2=1 then 1 else 0 from rfl);generalize way (max l b)=v at *;go_enter func173,ntmps173;go_wp2
 all_goals go_ret
 all_goals refine⟨BC ?_,rfl⟩
 all_goals (rw[HW.out];simp only[eR,aQ,ne_eq]at *;split <;> omega)
structure UH where
 U:Nat
 n:Nat
 R:List Int
 K:List Int
structure US (w:World)(q:UH)(C L:List Int):Prop where
 r:∀i,i<q.n->w.cell? ⟨q.U,i * 4,none⟩=some (.int .i32 (nth q.R i))
 k:∀i,i<q.n->w.cell? ⟨q.U,i * 4+1,none⟩=some (.int .i64 (nth q.K i))
 c:∀i,i<q.n->w.cell? ⟨q.U,i * 4+2,none⟩=some (.int .i64 (nth C i))
 l:∀i,i<q.n->w.cell? ⟨q.U,i * 4+3,none⟩=some (.int .i64 (nth L i))
 soft:∀j,j<q.n * 4->w.frozen? ⟨q.U,j,none⟩=false
 lC:C.length=q.n
 lL:L.length=q.n
structure SS (w:World)(q:UH)(S Q cQ:Nat)(s:Sq)(lv:Int):Prop where
 c0:w.cell? ⟨S,0,none⟩=some (.slice (some ⟨Q,0,none⟩) s.I.length cQ)
 c1:w.cell? ⟨S,1,none⟩=some (.int .i64 lv)
 c2:w.cell? ⟨S,2,none⟩=some (.int .i64 s.kE)
 c3:w.cell? ⟨S,3,none⟩=some (.int .i64 s.qW)
 p:∀k,k<s.I.length->w.cell? ⟨Q,k,none⟩=some (.pointer (some ⟨q.U,iP s.I k * 4,none⟩))
 lt:∀k,k<s.I.length->iP s.I k<q.n
 ne:S≠q.U/\Q≠q.U
 sm:s.I.length<=1000000
 cp:s.I.length<=cQ
theorem SS.fr {T:List Nat}{w w':World}{q:UH}{S Q cQ:Nat}{s:Sq}{lv:Int}(h:SS w q S Q cQ s lv)(hf:Fr T w w')(hS:S ∉ T)(hQ:Q ∉ T):SS w' q S Q cQ s lv :=
 ⟨hf.cell h.c0 hS,hf.cell h.c1 hS,hf.cell h.c2 hS,hf.cell h.c3 hS,fun k hk=>hf.cell (h.p k hk) hQ,h.lt,h.ne,h.sm,h.cp⟩
theorem US.fr {T:List Nat}{w w':World}{q:UH}{C L:List Int}(h:US w q C L)(hf:Fr T w w')(hU:q.U ∉ T):US w' q C L:=by
 refine⟨fun i hi=>hf.cell (h.r i hi) hU,fun i hi=>hf.cell (h.k i hi) hU,fun i hi=>hf.cell (h.c i hi) hU,fun i hi=>hf.cell (h.l i hi) hU,fun j hj=>?_,h.lC,h.lL⟩;have hb:q.U<w.heap.size:=fC _ _ (h.r 0 (by omega));exact(World.frozen?_of_block (a:=⟨q.U,j,none⟩) (hf.block q.U hb hU)).trans (h.soft j hj)
theorem US.Cc {w:World}{q:UH}{C L:List Int}(h:US w q C L){i:Nat}(hi:i<q.n)(v:Int):US (w.setCell ⟨q.U,i * 4+2,none⟩ (.int .i64 v)) q (C.set i v) L:=by
 have other:∀ {o:Nat} {x:Value},o≠i * 4+2->w.cell? ⟨q.U,o,none⟩=some x->(w.setCell ⟨q.U,i * 4+2,none⟩ (.int .i64 v)).cell? ⟨q.U,o,none⟩=some x:=fun ho hx=>by
  rw[gE _ _ _ _ (fun e=>ho (by cases e;rfl))];exact hx
 refine⟨fun j hj=>other (by omega) (h.r j hj),fun j hj=>other (by omega) (h.k j hj),fun j hj=>?_,fun j hj=>other (by omega) (h.l j hj),fun j hj=>by rw[World.frozen?_setCell];exact h.soft j hj,by rw[bK];exact h.lC,h.lL⟩;rw[xK C i v j (by rw[h.lC];exact hi)];by_cases e:j=i
 ·subst e;rw[aE rfl,gu _ _ _ (h.c j hj)]
 ·rw[ay e];exact other (by omega) (h.c j hj)
theorem US.LN {w:World}{q:UH}{C L:List Int}(h:US w q C L){i:Nat}(hi:i<q.n)(v:Int):US (w.setCell ⟨q.U,i * 4+3,none⟩ (.int .i64 v)) q C (L.set i v):=by
 have other:∀ {o:Nat} {x:Value},o≠i * 4+3->w.cell? ⟨q.U,o,none⟩=some x->(w.setCell ⟨q.U,i * 4+3,none⟩ (.int .i64 v)).cell? ⟨q.U,o,none⟩=some x:=fun ho hx=>by
  rw[gE _ _ _ _ (fun e=>ho (by cases e;rfl))];exact hx
 refine⟨fun j hj=>other (by omega) (h.r j hj),fun j hj=>other (by omega) (h.k j hj),fun j hj=>other (by omega) (h.c j hj),fun j hj=>?_,fun j hj=>by rw[World.frozen?_setCell];exact h.soft j hj,h.lC,by rw[bK];exact h.lL⟩;rw[xK L i v j (by rw[h.lL];exact hi)];by_cases e:j=i
 ·subst e;rw[aE rfl,gu _ _ _ (h.l j hj)]
 ·rw[ay e];exact other (by omega) (h.l j hj)
theorem xQ (q:UH)(C L:List Int)(S Q cQ:Nat)(s:Sq)(lv:Int)(k:Nat)(w:World)(hu:US w q C L)(hs:SS w q S Q cQ s lv)(hk:k<=s.I.length) :
 Calls prog 193 #[.pointer (some ⟨S,0,none⟩),.int .i64 k] w fun e w'=>e=.returned (.int .i64 (ah s C k))/\w'=w:=by
 have c0:=hs.c0;have c2:=hs.c2
 rcases bO k with h0 | h0
 ·subst h0
  rw[show ah s C 0=s.kE from rfl];go_enter func193,ntmps193;go_wp2;go_ret;exact⟨rfl,rfl⟩
 ·obtain⟨j,hj⟩:∃j,k=j+1:=⟨k - 1,by omega⟩
  have p1:=hs.p j (by omega);have p2:=hu.c _ (hs.lt j (by omega));have sm:=hs.sm;rw[show ah s C k=nth C (iP s.I j) by rw[hj,ah,ay (by omega)];rfl];generalize nth C (iP s.I j)=y at *;generalize iP s.I j=i at *;have hz:(k:Int) - 1=(j:Int):=by omega
  have hz2:¬(k:Int)=0:=by omega
  have hz3:¬k=0:=by omega
  have hjm:j<s.I.length:=by omega
  generalize s.I.length=m at *;clear hu hs hj;go_enter func193,ntmps193;go_wp2;go_ret;exact⟨rfl,rfl⟩
theorem Cl (q:UH)(C L:List Int)(S Q cQ:Nat)(s:Sq)(lv:Int)(k:Nat)(w:World)(hu:US w q C L)(hs:SS w q S Q cQ s lv)(hk:k<=s.I.length) :
 Calls prog 194 #[.pointer (some ⟨S,0,none⟩),.int .i64 k] w fun e w'=>e=.returned (.int .i64 (DU s C k))/\w'=w:=by
 have c0:=hs.c0;have c3:=hs.c3;have sm:=hs.sm
 rcases cH k s.I.length with h0 | h0
 ·have p1:=hs.p k h0
  have p2:=hu.c _ (hs.lt k h0);rw[show DU s C k=nth C (iP s.I k) by rw[DU,aE h0]];generalize nth C (iP s.I k)=y at *;generalize iP s.I k=i at *;generalize s.I.length=m at *;have hz:¬(k:Int)=(m:Int):=by omega
  have hz2:¬k=m:=by omega
  clear hu hs hk;go_enter func194,ntmps194;go_wp2;go_ret;exact⟨rfl,rfl⟩
 ·rw[show DU s C k=s.qW by rw[DU,ay (by omega)]]
  have hz:k=s.I.length:=by omega
  rw[hz];generalize s.I.length=m at *;clear hu hs hk;go_enter func194,ntmps194;go_wp2;go_ret;exact⟨rfl,rfl⟩
theorem Cm (q:UH)(S Q cQ:Nat)(s:Sq)(lv:Int)(w:World)(hs:SS w q S Q cQ s lv)(hl:0<=lv) :
 Calls prog 188 #[.pointer (some ⟨S,0,none⟩)] w fun e w'=>e=.returned (.int .i64 (way lv))/\∃m,w'=w.drewN m:=by
 have c1:=hs.c1;have HC:=hid (fun w=>Ck lv lv w hl);rw[show max lv lv=lv by omega]at HC;clear hs;go_enter func188,ntmps188;go_wp2;go_quiet (first | (go_at_call 173;exact gY (HC.out _)));go_wp2;go_ret;exact⟨rfl,_,rfl⟩
theorem LX (I:List Nat)(C:List Int)(k:Nat):(cl I C k=2->sD I C k=put I C k 1)/\(¬cl I C k=2->sD I C k=C) :=
 ⟨fun h=>by rw[sD,aE h],fun h=>by rw[sD,ay h]⟩
theorem Pe (q:UH)(C L:List Int)(S Q cQ:Nat)(s:Sq)(lv:Int)(w:World)(hu:US w q C L)(hs:SS w q S Q cQ s lv) :
 Calls prog 180 #[.pointer (some ⟨S,0,none⟩)] w fun e w'=>e=.returned (.tuple #[])/\US w' q (pJ s.I s.I.length C) L/\Fr [q.U] w w':=by
 have c0:=hs.c0;have sm:=hs.sm;have nS:=hs.ne.1;have nQ:=hs.ne.2;have HU:=hid hu;have HS:=hid hs;obtain⟨m,hm⟩:∃m,m=s.I.length:=⟨_,rfl⟩;have HM:=hid hm;rw[<-hm]at c0 sm ⊢;clear hu hs hm;go_enter func180,ntmps180;go_wp2;go_loopw [9] (fun a wr=>∃(k:Nat),a=.int .i64 k/\k<=m/\Hid (US wr q (pJ s.I k C) L)/\Hid (Fr [q.U] w wr)) (fun a _=>m - (intOf a).toNat)
 case atStart=>exact⟨0,rfl,aN _,HU,hid (Fr.refl _ _)⟩
 case round =>
  obtain⟨k,rfl,hk,HP,HF⟩:=hrel;by_cases hlt:k<m
  ·have hs':=HS.out.fr HF.out (fun h=>nS (ak.1 h)) (fun h=>nQ (ak.1 h))
   have p1:=hs'.p k (by rw[<-HM.out];exact hlt);have hi:=hs'.lt k (by rw[<-HM.out];exact hlt);have p2:=HP.out.c _ hi;have p3:=HP.out.soft (iP s.I k * 4+2) (by omega);have wW:=hid (fun z=>HP.out.Cc hi z);have HST:=hid (show pJ s.I (k+1) C=sD s.I (pJ s.I k C) k from rfl);have nZ:=hid (LX s.I (pJ s.I k C) k);rw[<-HST.out]at nZ;generalize Cn:pJ s.I (k+1) C=N2 at *;have qE:=hid Cn;clear Cn hs' HST;generalize pJ s.I k C=N at *;dsimp only[cl,put]at *;generalize iP s.I k=i at *;generalize nth N i=y at *;by_cases hy:y=2
   ·have HN:=hid (nZ.out.1 hy)
    subst hy;go_wp2;go_roundw
    case rel=>exact⟨k+1,by go_num,by omega,hid (by rw[qE.out,HN.out];exact wW.out 1),hid (HF.out.set (ak.2 rfl) _)⟩
    case measure=>simp[intOf];omega
   ·have HN:=hid (nZ.out.2 hy)
    go_wp2;go_roundw
    case rel=>exact⟨k+1,by go_num,by omega,hid (by rw[qE.out,HN.out];exact HP.out),HF⟩
    case measure=>simp[intOf];omega
  ·have hk2:k=m:=by omega
   have Ge:=hid (show US wr q (pJ s.I m C) L by rw[<-hk2];exact HP.out);clear hk2;go_wp2;go_end0;exact⟨rfl,Ge.out,HF.out⟩
theorem ER {w wr:World}{q:UH}{C L:List Int}{S Q cQ:Nat}{s:Sq}{lv:Int}(hu:US wr q C L)(hs:SS w q S Q cQ s lv)(hf:Fr [q.U] w wr){k:Nat}(hk:k<s.I.length) :
 iP s.I k<q.n/\wr.cell? ⟨Q,k,none⟩=some (.pointer (some ⟨q.U,iP s.I k * 4,none⟩))/\wr.cell? ⟨q.U,iP s.I k * 4+2,none⟩=some (.int .i64 (nth C (iP s.I k)))/\wr.frozen? ⟨q.U,iP s.I k * 4+2,none⟩=false/\wr.cell? ⟨q.U,iP s.I k * 4+1,none⟩=some (.int .i64 (nth q.K (iP s.I k))) :=
 have hs':=hs.fr hf (fun h=>hs.ne.1 (ak.1 h)) (fun h=>hs.ne.2 (ak.1 h));have hi:=hs'.lt k hk
 ⟨hi,hs'.p k hk,hu.c _ hi,hu.soft _ (by omega),hu.k _ hi⟩
theorem SS.Ks {w wr:World}{q:UH}{S Q cQ:Nat}{s:Sq}{lv:Int}(hs:SS w q S Q cQ s lv)(hf:Fr [q.U] w wr):SS wr q S Q cQ s lv :=
 hs.fr hf (fun h=>hs.ne.1 (ak.1 h)) (fun h=>hs.ne.2 (ak.1 h))
theorem Gf (I:List Nat)(C:List Int)(k:Nat):(cl I C k=4\/cl I C k=5\/cl I C k=7->mR I C k=put I C k 13)/\(¬(cl I C k=4\/cl I C k=5\/cl I C k=7)->mR I C k=C) :=
 ⟨fun h=>by rw[mR,aE h],fun h=>by rw[mR,ay h]⟩
theorem Pf (q:UH)(C L:List Int)(S Q cQ:Nat)(s:Sq)(lv:Int)(w:World)(hu:US w q C L)(hs:SS w q S Q cQ s lv) :
 Calls prog 183 #[.pointer (some ⟨S,0,none⟩)] w fun e w'=>e=.returned (.tuple #[])/\US w' q (kA s.I s.I.length C) L/\Fr [q.U] w w':=by
 have c0:=hs.c0;have sm:=hs.sm;have HU:=hid hu;have HS:=hid hs;obtain⟨m,hm⟩:∃m,m=s.I.length:=⟨_,rfl⟩;have HM:=hid hm;rw[<-hm]at c0 sm ⊢;clear hu hs hm;go_enter func183,ntmps183;go_wp2;go_loopw [9] (fun a wr=>∃(k:Nat),a=.int .i64 k/\k<=m/\Hid (US wr q (kA s.I k C) L)/\Hid (Fr [q.U] w wr)) (fun a _=>m - (intOf a).toNat)
 case atStart=>exact⟨0,rfl,aN _,HU,hid (Fr.refl _ _)⟩
 case round =>
  obtain⟨k,rfl,hk,HP,HF⟩:=hrel;by_cases hlt:k<m
  ·obtain⟨hi,p1,p2,p3,p4⟩:=ER HP.out HS.out HF.out (show k<s.I.length by rw[<-HM.out];exact hlt)
   have wW:=hid (fun z=>HP.out.Cc hi z);have HST:=hid (show kA s.I (k+1) C=mR s.I (kA s.I k C) k from rfl);have nZ:=hid (Gf s.I (kA s.I k C) k);rw[<-HST.out]at nZ;generalize Cn:kA s.I (k+1) C=N2 at *;have qE:=hid Cn;clear Cn HST p4;generalize kA s.I k C=N at *;dsimp only[cl,put]at *;generalize iP s.I k=i at *;generalize nth N i=y at *;by_cases hy:y=4\/y=5\/y=7
   ·have HN:=hid (nZ.out.1 hy)
    rcases hy with rfl | rfl | rfl
    all_goals (
     go_wp2
     go_roundw
     case rel=>exact⟨k+1,by go_num,by omega,hid (by rw[qE.out,HN.out];exact wW.out 13),hid (HF.out.set (ak.2 rfl) _)⟩
     case measure=>simp[intOf];omega)
   ·have HN:=hid (nZ.out.2 hy)
    have y4:¬y=4:=fun h=>hy (.inl h)
    have y5:¬y=5:=fun h=>hy (.inr (.inl h))
    have y7:¬y=7:=fun h=>hy (.inr (.inr h))
    clear hy;go_wp2;go_roundw
    case rel=>exact⟨k+1,by go_num,by omega,hid (by rw[qE.out,HN.out];exact HP.out),HF⟩
    case measure=>simp[intOf];omega
  ·have hk2:k=m:=by omega
   have Ge:=hid (show US wr q (kA s.I m C) L by rw[<-hk2];exact HP.out);clear hk2;go_wp2;go_end0;exact⟨rfl,Ge.out,HF.out⟩
theorem LY (I:List Nat)(letter v:Int)(x:Int)(C:List Int)(k:Nat) :
 (cl I C k=0\/cl I C k=1\/cl I C k=2->mF I true letter v (x,C) k=(cl I C k,C)) /\
 (cl I C k=3->x=letter->mF I true letter v (x,C) k=(x,put I C k v)) /\
 (cl I C k=3->¬x=letter->mF I true letter v (x,C) k=(x,C)) /\
 (¬(cl I C k=0\/cl I C k=1\/cl I C k=2)->¬cl I C k=3->mF I true letter v (x,C) k=(x,C)):=by
 refine⟨fun h=>?_,fun h h1=>?_,fun h h1=>?_,fun h h1=>?_⟩
 ·rw[mF,aE (by rcases h with h | h | h;exact .inl h;exact .inr (.inl h);exact .inr (.inr ⟨rfl,h⟩))]
 ·rw[mF,ay (by dsimp only;omega),aE ⟨h,h1⟩]
 ·rw[mF,ay (by dsimp only;omega),ay (fun h2=>h1 h2.2)]
 ·rw[mF,ay (by rintro (h2 | h2 | h2);exact h (.inl h2);exact h (.inr (.inl h2));exact h (.inr (.inr h2.2))),ay (fun h2=>h1 h2.1)]
theorem Gg (q:UH)(C L:List Int)(S Q cQ:Nat)(s:Sq)(lv:Int)(letter v:Int)(w:World)(hu:US w q C L)(hs:SS w q S Q cQ s lv) :
 Calls prog 179 #[.pointer (some ⟨S,0,none⟩),.int .i64 letter,.int .i64 v] w fun e w'=>e=.returned (.tuple #[])/\US w' q (jV s.I true letter v s.I.length (s.kE,C)).2 L/\Fr [q.U] w w':=by
 have c0:=hs.c0;have c2:=hs.c2;have sm:=hs.sm;have HU:=hid hu;have HS:=hid hs;obtain⟨m,hm⟩:∃m,m=s.I.length:=⟨_,rfl⟩;have HM:=hid hm;rw[<-hm]at c0 sm ⊢;clear hu hs hm;go_enter func179,ntmps179;go_wp2;go_loopw [6,18] (fun x a wr=>∃(k:Nat),x=.int .i64 (jV s.I true letter v k (s.kE,C)).1/\a=.int .i64 k/\k<=m/\Hid (US wr q (jV s.I true letter v k (s.kE,C)).2 L)/\Hid (Fr [q.U] w wr)) (fun _ a _=>m - (intOf a).toNat)
 case atStart=>exact⟨0,rfl,rfl,aN _,HU,hid (Fr.refl _ _)⟩
 case round =>
  obtain⟨k,rfl,rfl,hk,HP,HF⟩:=hrel;by_cases hlt:k<m
  ·have HST:=hid (show jV s.I true letter v (k+1) (s.kE,C)=mF s.I true letter v (jV s.I true letter v k (s.kE,C)) k from rfl)
   generalize Cn:jV s.I true letter v (k+1) (s.kE,C)=N2 at *;have qE:=hid Cn;clear Cn;generalize jV s.I true letter v k (s.kE,C)=N at *;obtain⟨x,N⟩:=N;dsimp only at *;obtain⟨hi,p1,p2,p3,p4⟩:=ER HP.out HS.out HF.out (show k<s.I.length by rw[<-HM.out];exact hlt);have wW:=hid (fun z=>HP.out.Cc hi z);have nZ:=hid (LY s.I letter v x N k);rw[<-HST.out]at nZ;clear HST p4;dsimp only[cl,put]at *;generalize iP s.I k=i at *;generalize nth N i=y at *;by_cases hy:y=0\/y=1\/y=2
   ·have HN:=hid (nZ.out.1 hy)
    rcases hy with rfl | rfl | rfl
    all_goals (
     go_wp2
     go_roundw
     case rel=>exact⟨k+1,by rw[qE.out,HN.out],by go_num,by omega,hid (by rw[qE.out,HN.out];exact HP.out),HF⟩
     case measure=>simp[intOf];omega)
   ·have y0:¬y=0:=fun h=>hy (.inl h)
    have y1:¬y=1:=fun h=>hy (.inr (.inl h))
    have y2:¬y=2:=fun h=>hy (.inr (.inr h))
    by_cases h3:y=3
    ·by_cases hx:x=letter
     ·have HN:=hid (nZ.out.2.1 h3 hx)
      subst h3;subst hx;clear hy;go_wp2;go_roundw
      case rel=>exact⟨k+1,by rw[qE.out,HN.out],by go_num,by omega,hid (by rw[qE.out,HN.out];exact wW.out v),hid (HF.out.set (ak.2 rfl) _)⟩
      case measure=>simp[intOf];omega
     ·have HN:=hid (nZ.out.2.2.1 h3 hx)
      subst h3;clear hy;go_wp2;go_roundw
      case rel=>exact⟨k+1,by rw[qE.out,HN.out],by go_num,by omega,hid (by rw[qE.out,HN.out];exact HP.out),HF⟩
      case measure=>simp[intOf];omega
    ·have HN:=hid (nZ.out.2.2.2 hy h3)
     clear hy;go_wp2;go_roundw
     case rel=>exact⟨k+1,by rw[qE.out,HN.out],by go_num,by omega,hid (by rw[qE.out,HN.out];exact HP.out),HF⟩
     case measure=>simp[intOf];omega
  ·have hk2:k=m:=by omega
   have Ge:=hid (show US wr q (jV s.I true letter v m (s.kE,C)).2 L by rw[<-hk2];exact HP.out);clear hk2;go_wp2;go_end0;exact⟨rfl,Ge.out,HF.out⟩
theorem Gh (q:UH)(C L:List Int)(S Q cQ:Nat)(s:Sq)(lv:Int)(a b:Nat)(v:Int)(w:World)(hu:US w q C L)(hs:SS w q S Q cQ s lv)(hab:a<b)(hb:b<=s.I.length) :
 Calls prog 195 #[.pointer (some ⟨S,0,none⟩),.int .i64 a,.int .i64 b,.int .i64 v] w fun e w'=>e=.returned (.tuple #[])/\US w' q (kP s.I a v (b - a) C) L/\Fr [q.U] w w':=by
 have c0:=hs.c0;have sm:=hs.sm;have cp:=hs.cp;have HU:=hid hu;have HS:=hid hs;obtain⟨m,hm⟩:∃m,m=s.I.length:=⟨_,rfl⟩;have HM:=hid hm;rw[<-hm]at c0 sm hb cp;have hI1:(a:Int)<=(b:Int):=by omega
 have hI2:(b:Int)<=(cQ:Int):=by omega
 have hI3:(b:Int)<=(m:Int):=by omega
 have hca:¬cQ=a:=by omega
 obtain⟨d,hd⟩:∃d,b - a=d:=⟨_,rfl⟩;rw[hd];have hdm:a+d<=m:=by omega
 clear hu hs hm;go_enter func195,ntmps195;go_wp2;clear hd hca;go_loopw [18] (fun x wr=>∃(k:Nat),x=.int .i64 k/\k<=d/\Hid (US wr q (kP s.I a v k C) L)/\Hid (Fr [q.U] w wr)) (fun x _=>d - (intOf x).toNat)
 case atStart=>exact⟨0,rfl,aN _,HU,hid (Fr.refl _ _)⟩
 case round =>
  obtain⟨k,rfl,hk,HP,HF⟩:=hrel;by_cases hlt:k<d
  ·obtain⟨hi,p1,p2,p3,p4⟩:=ER HP.out HS.out HF.out (show a+k<s.I.length by rw[<-HM.out];omega)
   have wW:=hid (fun z=>HP.out.Cc hi z);have HST:=hid (show kP s.I a v (k+1) C=put s.I (kP s.I a v k C) (a+k) v from rfl);generalize Cn:kP s.I a v (k+1) C=N2 at *;have qE:=hid Cn;clear Cn p4;generalize kP s.I a v k C=N at *;dsimp only[cl,put]at *;generalize iP s.I (a+k)=i at *;generalize nth N i=y at *;go_wp2;go_roundw
   case rel=>exact⟨k+1,by go_num,by omega,hid (by rw[qE.out,HST.out];exact wW.out v),hid (HF.out.set (ak.2 rfl) _)⟩
   case measure=>simp[intOf];omega
  ·have hk2:k=d:=by omega
   have Ge:=hid (show US wr q (kP s.I a v d C) L by rw[<-hk2];exact HP.out);clear hk2;go_wp2;go_end0;exact⟨rfl,Ge.out,HF.out⟩
end Go.Proofs.YtnakejhohdbfdacGreatDoor

import Derived.Test.YtnakejhohdbfdacGreatDoorMaj
import Derived.Maps.OwnSet
set_option maxHeartbeats 4000000
set_option maxRecDepth 10000
set_option linter.unusedSimpArgs false
namespace Go.Proofs.YtnakejhohdbfdacGreatDoor
open Go.RowKit j9 Go.Proofs.Tryz
structure QS (w:World)(q:UH)(P cU:Nat)(lv:Int):Prop where
 c0:w.cell? ⟨P,0,none⟩=some (.slice (some ⟨q.U,0,none⟩) q.n cU)
 c2:w.cell? ⟨P,2,none⟩=some (.int .i64 lv)
 ne:P≠q.U
theorem QS.fr {T:List Nat}{w w':World}{q:UH}{P cU:Nat}{lv:Int}(h:QS w q P cU lv)(hf:Fr T w w')(hP:P ∉ T):QS w' q P cU lv:=⟨hf.cell h.c0 hP,hf.cell h.c2 hP,h.ne⟩
theorem QS.Ks {w w':World}{q:UH}{P cU:Nat}{lv:Int}(h:QS w q P cU lv)(hf:Fr [q.U] w w'):QS w' q P cU lv:=h.fr hf (fun e=>h.ne (ak.1 e))
theorem IQ (K:List Int)(base:Int)(i:Nat)(L:List Int) :
 (gone (nth K i)=true->j5 K base (i+1) L=((j5 K base i L).1,(j5 K base i L).2.set i (j5 K base i L).1))/\(gone (nth K i)=false->j5 K base (i+1) L=(nth (j5 K base i L).2 i,(j5 K base i L).2)):=by
 refine⟨fun h=>?_,fun h=>?_⟩
 ·rw[j5,aE h]
 ·rw[j5,ay (by rw[h];exact aG)]
theorem Bv (q:UH)(C L:List Int)(P cU:Nat)(lv:Int)(w:World)(hu:US w q C L)(hq:QS w q P cU lv)(hn:q.n<=1000000) :
 Calls prog 143 #[.pointer (some ⟨P,0,none⟩)] w fun e w'=>e=.returned (.tuple #[])/\US w' q C (j5 q.K lv q.n L).2/\Fr [q.U] w w':=by
 have c0:=hq.c0;have c2:=hq.c2;have nP:=hq.ne;have HU:=hid hu;have HQ:=hid hq;clear hu hq;go_enter func143,ntmps143;go_wp2;go_loopw [2,13] (fun x a wr=>∃(i:Nat),x=.int .i64 (j5 q.K lv i L).1/\a=.int .i64 i/\i<=q.n/\Hid (US wr q C (j5 q.K lv i L).2)/\Hid (Fr [q.U] w wr)) (fun _ a _=>q.n - (intOf a).toNat)
 case atStart=>exact⟨0,rfl,rfl,aN _,HU,hid (Fr.refl _ _)⟩
 case round =>
  obtain⟨i,rfl,rfl,hin,HP,HF⟩:=hrel;by_cases hlt:i<q.n
  ·have d0:=(HQ.out.Ks HF.out).c0
   have p1:=HP.out.k i hlt;have p2:=HP.out.l i hlt;have p3:=HP.out.soft (i * 4+3) (by omega);have HSL:=hid (fun z=>HP.out.LN hlt z);have nZ:=hid (IQ q.K lv i L);have D2:=hid HP.out.lL;generalize Cn:j5 q.K lv (i+1) L=N2 at *;have qE:=hid Cn;clear Cn;generalize j5 q.K lv i L=N at *;obtain⟨x,N⟩:=N;dsimp only at *;have HC:=hid (xO (nth q.K i));have y_:(i:Int)<(q.n:Int):=by omega
   have hsame:=HSL.out x;have r0:=hsame.l i hlt;rw[xK _ _ _ _ (by rw[D2.out];exact hlt),aE rfl]at r0;have r1:(w.cell? ⟨P,0,none⟩=some (.slice (some ⟨q.U,0,none⟩) q.n cU)):=c0;have r2:=(HQ.out.Ks (HF.out.set (b:=q.U) (i:=i * 4+3) (ak.2 rfl) (.int .i64 x))).c0;clear hsame r1;cases hg:gone (nth q.K i)
   ·have HN:=hid (nZ.out.2 hg)
    rw[hg]at HC;generalize nth q.K i=kk at *;generalize nth N i=z at *;clear nZ hg r0 r2;go_wp2_with (first | (go_at_call 196;refine(HC.out _).mono ?_;rintro e w' ⟨rfl,rfl⟩));go_roundw
    case rel=>exact⟨i+1,by rw[qE.out,HN.out],by go_num,by omega,hid (by rw[qE.out,HN.out];exact HP.out),HF⟩
    case measure=>simp[intOf];omega
   ·have HN:=hid (nZ.out.1 hg)
    rw[hg]at HC;generalize nth q.K i=kk at *;generalize nth N i=z at *;clear nZ hg;go_wp2_with (first | (go_at_call 196;refine(HC.out _).mono ?_;rintro e w' ⟨rfl,rfl⟩));go_roundw
    case rel=>exact⟨i+1,by rw[qE.out,HN.out],by go_num,by omega,hid (by rw[qE.out,HN.out];exact HSL.out x),hid (HF.out.set (ak.2 rfl) _)⟩
    case measure=>simp[intOf];omega
  ·have hk2:i=q.n:=by omega
   have Ge:=hid (show US wr q C (j5 q.K lv q.n L).2 by rw[<-hk2];exact HP.out);clear hk2;go_wp2;go_end0;exact⟨rfl,Ge.out,HF.out⟩
theorem Bz (q:UH)(C L:List Int)(P cU:Nat)(lv:Int)(w:World)(hu:US w q C L)(hq:QS w q P cU lv)(hn:q.n<=1000000)(hn0:0<q.n) :
 Calls prog 144 #[.pointer (some ⟨P,0,none⟩)] w fun e w'=>∃g,e=.returned (.slice (some ⟨g,0,none⟩) q.n q.n)/\(w.heap.size<=g/\soft w' g q.n)/\rowAt w' g q.n L/\Fr [] w w':=by
 have c0:=hq.c0;have HU:=hid hu;have HQ:=hid hq;have Co:q.U<w.heap.size:=fC _ _ (hu.r 0 hn0);have za:P<w.heap.size:=fC _ _ c0;obtain⟨i3,hi3,Cp,Cq,hz32⟩:=fY info3;obtain⟨ZL,Xc⟩:∃ZL,ZL=madeCells #[.int .i64 0] q.n:=⟨_,rfl⟩;have aak:∀X:World,(Instr.makeSlice 32 (.int .i64 q.n) (.int .i64 q.n)).run prog X=.ok (.slice (some ⟨X.heap.size,0,none⟩) q.n q.n) (X.alloc (.cells ZL 3)):=fun X=>by
  have:=run_make (P:=prog) X 32 3 i3 _ underlying32 hi3 Cp .i64 .i64 q.n q.n (by omega) (eD _) (by rw[hz32];omega) (by omega);rw[Cq,Nat.mul_one]at this;rw[Xc];exact this
 have HZL:=hid Xc;have HO0:=hid (show(w.alloc (.cells ZL 3)).ownsRow w.heap.size 3 1 (.slice (some ⟨w.heap.size,0,none⟩) q.n q.n) q.n ZL.toList from iq (base:=w.heap.size) (e:=3) (size:=1) w ZL q.n (au _) (by unfold maxLen;omega) (by rw[Xc,size_madeCells];omega));clear hu hq Xc;go_enter func144,ntmps144;go_wp2;go_loopw [17] (fun a wr=>∃(i:Nat) (xs:List Value),a=.int .i64 i/\i<=q.n/\Hid (Fr [] w wr)/\Hid (wr.ownsRow w.heap.size 3 1 (.slice (some ⟨w.heap.size,0,none⟩) q.n q.n) q.n xs)/\Hid (∀j,j<i->xs[j]?=some (.int .i64 (nth L j)))) (fun a _=>q.n - (intOf a).toNat)
 case atStart=>exact⟨0,_,rfl,aN _,hid ((Fr.refl _ _).alloc _),HO0,hid (fun j hj=>absurd hj (cu _))⟩
 case round =>
  obtain⟨i,xs,rfl,hin,HF,HO,HX⟩:=hrel;have d0:=(HQ.out.fr HF.out aj).c0;by_cases hlt:i<q.n
  ·have Kt:=hid (HU.out.fr HF.out aj)
   have p0:=Kt.out.r i hlt;have p1:=Kt.out.k i hlt;have p2:=Kt.out.c i hlt;have p3:=Kt.out.l i hlt;have hsz:=(ji HO.out).2;have AD:=hid (iM HO.out ((Fr.refl [] wr).alloc (.cells #[.int .i32 (nth q.R i),.int .i64 (nth q.K i),.int .i64 (nth C i),.int .i64 (nth L i)] 280)));have hxl:xs.length=q.n:=by have:=HO.out.1;omega
   have f1:∃u,(wr.alloc (.cells #[.int .i32 (nth q.R i),.int .i64 (nth q.K i),.int .i64 (nth C i),.int .i64 (nth L i)] 280)).cell? ⟨w.heap.size,i,none⟩=some u:=by
    rw[AD.out.cellAt i (by omega),aA (by omega)];exact⟨_,rfl⟩
   obtain⟨u,f1⟩:=f1;have f2:=AD.out.frozenAt i;have HST:=hid (HO.out.stored i (.int .i64 (nth L i)));have y_:(i:Int)<(q.n:Int):=by omega
   generalize nth q.R i=a1 at *;generalize nth q.K i=a2 at *;generalize nth C i=a3 at *;generalize hy:nth L i=y at *;have HY:=hid hy;have A6:q.U<wr.heap.size:=by have:=HF.out.size;omega
   clear hy;go_wp2;go_roundw
   case rel=>exact⟨i+1,_,by go_num,by omega,hid ((Fr.grown HF.out HST.out.2 (fun k hk=>by cases hk;exact au _)).alloc _),hid (HST.out.1.alloc _),hid (fun j hj=>by
    rcases Nat.lt_succ_iff_lt_or_eq.1 hj with h | h
    ·rw[bJ (by omega)];exact HX.out j h
    ·subst h;rw[bn (by omega),HY.out])⟩
   case measure=>simp[intOf];omega
  ·have hk2:i=q.n:=by omega
   have HXZ:=hid (show ∀j,j<q.n->xs[j]?=some (.int .i64 (nth L j)) by rw[<-hk2];exact HX.out);have y_:¬(i:Int)<(q.n:Int):=by omega
   clear hk2;go_wp2;go_ret;exact⟨w.heap.size,rfl,⟨au _,fun j _=>HO.out.frozenAt j⟩,fun j hj=>by rw[HO.out.cellAt j (by omega)];exact HXZ.out j hj,HF.out⟩
open Go.Maps
theorem sX:Keyed prog 3:=int_keyed underlying3
theorem Cr (w:World):(zeroValue 3).run prog w=.ok (.int .i64 0) w:=by kernel_rfl
abbrev kN (i:Nat):Lit:=.int .i64 (i:Nat)
def tU (D:DataW Unit)(f:Nat->Option Nat):Prop:=IsMap D/\∀i:Nat,Maps.has D (kN i)=(f i).isSome/\∀m,f i=some m->∀z,D.atKey (kN i) z=.lit (.int .i64 (m:Nat))
theorem z7:tU (.map []) (fun _=>none):=⟨isMap_empty,fun _=>⟨rfl,fun m h=>by cases h⟩⟩
theorem tV {i:Nat}:WideAt.IsKeyLit (kN i):=by simp[WideAt.IsKeyLit]
theorem ze {i j:Nat}(h:i≠j):kN i≠kN j:=fun e=>h (by simp at e;omega)
theorem tU.put {D:DataW Unit}{f:Nat->Option Nat}(h:tU D f)(a b:Nat):tU (D.put (kN a) (.lit (.int .i64 (b:Nat)))) (fun i=>if i=a then some b else f i):=by
 refine⟨h.1.put _ _,fun i=>?_⟩;by_cases e:i=a
 ·subst e
  dsimp only;rw[aE rfl];exact⟨by rw[has_put_same (k:=kN i) h.1 tV];rfl,fun m hm z=>by cases hm;exact atKey_put_same (k:=kN i) h.1 tV _ z⟩
 ·dsimp only
  rw[ay e];exact⟨by rw[has_put_other (ze e)];exact(h.2 i).1,fun m hm z=>by rw[atKey_put_other (ze e)];exact(h.2 i).2 m hm z⟩
theorem oC {w w':World}{b n:Nat}{D:DataW Unit}(h:w.ownsMap prog 3 (plainElem prog 3) b n D)(hf:Fr [] w w'):w'.ownsMap prog 3 (plainElem prog 3) b n D :=
 h.kept (row:=none) ⟨hf.os,hf.tape,hf.output,hf.size,fun k hk _=>hf.block k hk aj⟩ (by simp)
theorem uR {w:World}{B g n cap size:Nat}{e:TypeId}{xs:List Value}(h:w.ownsRow B e size (.slice (some ⟨g,0,none⟩) n cap) n xs):n<=cap:=by
 rcases h.2 with⟨h0,_⟩ | ⟨g',cap',cur,hv,hg,hh,hn,_⟩
 ·cases h0
 ·cases hv;exact hn
theorem IU (K:List Int)(k:Nat) :
 (mh (nth K k)=true->iT K (k+1)=k :: iT K k/\j9.partAt K (k+1)=j9.partAt K k) /\
 (∀x r,nth K k=22->iT K k=x :: r->iT K (k+1)=r/\j9.partAt K (k+1)=fun i=>if i=x then some k else j9.partAt K k i) /\
 (nth K k=22->iT K k=[]->iT K (k+1)=[]/\j9.partAt K (k+1)=j9.partAt K k) /\
 (mh (nth K k)=false->¬nth K k=22->iT K (k+1)=iT K k/\j9.partAt K (k+1)=j9.partAt K k):=by
 refine⟨fun h=>⟨by rw[iT,aE h],?_⟩,fun x r h h1=>⟨?_,?_⟩,fun h h1=>⟨?_,?_⟩,fun h h1=>⟨?_,?_⟩⟩
 ·funext i;rw[j9.partAt,ay (by rw[h];intro e;cases e.1)]
 ·rw[iT,h,ay (by decide),aE rfl,h1];rfl
 ·funext i
  rw[j9.partAt,h,h1];by_cases e:i=x
  ·subst e;rw[aE ⟨by decide,rfl,rfl⟩,aE rfl]
  ·rw[ay (fun h2=>e (by have:=h2.2.2;simp at this;exact this.symm)),ay e]
 ·rw[iT,h,ay (by decide),aE rfl,h1];rfl
 ·funext i
  rw[j9.partAt,h1,ay (fun h2=>by have:=h2.2.2;simp at this)]
 ·rw[iT,ay (by rw[h];exact aG),ay h1]
 ·funext i
  rw[j9.partAt,ay (fun h2=>h1 h2.2.1)]
theorem Gi (K:List Int):∀k,(iT K k).length<=k
 | 0=>by simp[iT]
 | k+1=>by
   have ih:=Gi K k;rw[iT];split
   ·simp;omega
   ·split
    ·simp;omega
    ·omega
theorem A7 (K:List Int):∀k,∀x∈iT K k,x<k
 | 0,x,h=>by simp[iT]at h
 | k+1,x,h=>by
   rw[iT]at h;split at h
   ·rcases bA.1 h with e | e
    ·omega
    ·have:=A7 K k x e;omega
   ·split at h
    ·have:=A7 K k x (List.mem_of_mem_tail h);omega
    ·have:=A7 K k x h;omega
theorem Ct (q:UH)(C L:List Int)(cU:Nat)(w:World)(hu:US w q C L)(hn:q.n<=1000000)(hn0:0<q.n) :
 Calls prog 163 #[.slice (some ⟨q.U,0,none⟩) q.n cU] w fun e w'=>e=.returned (.map (some w.heap.size))/\(∃D,w'.ownsMap prog 3 (plainElem prog 3) w.heap.size q.n D/\tU D (j9.partAt q.K q.n))/\Fr [] w w':=by
 obtain⟨i0,hi,hz0,hz1,hz2⟩:=fY info3;have hmm:=@run_makeMap prog;have HU:=hid hu;have Co:q.U<w.heap.size:=fC _ _ (hu.r 0 hn0);clear hu;go_enter func163,ntmps163;go_wp2;go_loopw [4,11] (fun vo a wr=>∃(k:Nat) (D:DataW Unit),a=.int .i64 k/\k<=q.n/\Hid (wr.ownsRow (w.heap.size+1) 3 1 vo (iT q.K k).length (jk (iT q.K k).reverse))/\Hid (wr.ownsMap prog 3 (plainElem prog 3) w.heap.size k D)/\Hid (tU D (j9.partAt q.K k))/\Hid (Fr [] w wr)) (fun _ a _=>q.n - (intOf a).toNat)
 case atStart=>exact⟨0,_,rfl,aN _,hid (fQ _ _ _ _),hid (iE _ _ _ _),hid z7,hid ((Fr.refl _ _).alloc _)⟩
 case round =>
  obtain⟨k,D,rfl,hk,HO,HM,HI,HF⟩:=hrel;by_cases hlt:k<q.n
  ·have Kt:=hid (HU.out.fr HF.out aj)
   have p0:=Kt.out.r k hlt;have p1:=Kt.out.k k hlt;have p2:=Kt.out.c k hlt;have p3:=Kt.out.l k hlt;have hsz:=HF.out.size;have hml:=HM.out.lt;have hol:=Gi q.K k;have Gj:=hid (IU q.K k);obtain⟨a1,c1,hv1⟩:=iW HO.out;obtain⟨n,hn'⟩:∃n,n=(iT q.K k).length:=⟨_,rfl⟩;have HN:=hid hn';rw[<-hn']at hv1 hol;subst hv1;have A6:q.U<wr.heap.size:=by omega
   have HC:=hid (xN (nth q.K k));obtain⟨bx,hbx⟩:∃bx:Obj,bx=.cells #[.int .i32 (nth q.R k),.int .i64 (nth q.K k),.int .i64 (nth C k),.int .i64 (nth L k)] 280:=⟨_,rfl⟩;have AD:=hid (iM (by have:=HO.out;rw[<-hn']at this;exact this) ((Fr.refl [] wr).alloc bx));have Xd:=hid (HM.out.alloc bx);have Dz:=hid (HF.out.alloc bx);rw[hbx]at AD Xd Dz;generalize nth q.R k=r1 at *;generalize nth C k=r3 at *;generalize nth L k=r4 at *;clear hbx hn';cases sN:mh (nth q.K k)
   ·by_cases h22:nth q.K k=22
    ·cases hop:iT q.K k with
     | nil =>
       obtain⟨e1,e2⟩:=Gj.out.2.2.1 h22 hop;have kX:=hid e1;have HE2:=hid e2;have hnz:n=0:=by rw[HN.out,hop];rfl
       rw[h22]at HC p1 AD Xd Dz;rw[hop]at AD;subst hnz;have HC0:Hid (∀w,Calls prog 202 #[.int .i64 22] w fun e w'=>e=.returned (.bool false)/\w'=w):=HC;clear sN h22 hop e1 e2 Gj HC;go_wp2_with (first | (go_at_call 202;refine(HC0.out _).mono ?_;rintro e w' ⟨rfl,rfl⟩));go_roundw
       case rel=>exact⟨k+1,D,by go_num,by omega,hid (by rw[kX.out];exact AD.out),hid (Xd.out.mono (by omega)),hid (by rw[HE2.out];exact HI.out),Dz⟩
       case measure=>simp[intOf];omega
     | cons x r =>
       obtain⟨e1,e2⟩:=Gj.out.2.1 x r h22 hop;have kX:=hid e1;have HE2:=hid e2;have hnr:n=r.length+1:=by rw[HN.out,hop];rfl
       have hxk:=A7 q.K k x (by rw[hop];exact bX);rw[h22]at HC p1 AD Xd Dz;rw[hop,List.reverse_cons]at AD;obtain⟨go,co,hsh⟩:=iQ (by omega) AD.out;cases hsh;have hcp:=uR AD.out;have hgo:=ji AD.out;have f1:∀X:World,X.ownsRow (w.heap.size+1) 3 1 (.slice (some ⟨go,0,none⟩) n c1) n (jk (r.reverse++[x]))->X.cell? ⟨go,r.length,none⟩=some (.int .i64 (x:Nat)):=fun X hX=>by
        rw[hX.cellAt r.length (by omega),<-sM,aI (by simp[jk])];simp[jk]
       have f2:=f1 _ AD.out;have hl1:(n:Int) - 1=(r.length:Int):=by omega
       have hl2:(r.length:Int)<(n:Int):=by omega
       have hl3:(r.length:Int)<=(c1:Int):=by omega
       have hl4:(0:Int)<=(r.length:Int):=by omega
       have HC0:Hid (∀w,Calls prog 202 #[.int .i64 22] w fun e w'=>e=.returned (.bool false)/\w'=w):=HC;obtain⟨lr,hlr⟩:∃lr,lr=r.length:=⟨_,rfl⟩;rw[<-hlr]at f2 hl1 hl2 hl3 hl4;have Zv:=hid hlr;have D3:=hid hnr;clear sN h22 hop e1 e2 Gj HC f1 hlr hnr;go_wp2_with (first | (go_at_call 202;refine(HC0.out _).mono ?_;rintro e w' ⟨rfl,rfl⟩) | (at_mapUpdate;refine iw _ rfl _ _ _ 258 rfl 3 3 sX underlying258 _ w.heap.size k D rfl Xd.out (by unfold maxLen;omega) _ _ (kN x) rfl rfl (keyOf_int_mk underlying3 (f_ (by omega))) (.lit (.int .i64 (k:Nat))) [] (plainElem_int underlying3 (f_ (by omega))) ?_));intro w3 hown3 hgrow3;have Xe:=hid hown3;have lD:=hid (jP AD.out hgrow3 (fun y hy e=>by cases hy;have h5:go=w.heap.size:=aZ e;omega));have jQ:=hid (Dz.out.grown hgrow3 (fun y hy=>by cases hy;exact au _))
       have oI:=hid (show w3.ownsRow (w.heap.size+1) 3 1 (.slice (some ⟨go,0,none⟩) lr c1) r.length (jk r.reverse) by
        have h5:=xL lD.out (j:=lr) (by have:=D3.out;have:=Zv.out;omega)
        rw[IL,List.take_left' (by rw[eH];exact Zv.out.symm)]at h5
        rw[<-Zv.out];exact h5)
       have HI3:=hid (HI.out.put x k);clear hown3 hgrow3;go_wp2;go_roundw
       case rel=>exact⟨k+1,_,by go_num,by omega,hid (by rw[kX.out];exact oI.out),Xe,hid (by rw[HE2.out];exact HI3.out),jQ⟩
       case measure=>simp[intOf];omega
    ·obtain⟨e1,e2⟩:=Gj.out.2.2.2 sN h22
     have kX:=hid e1;have HE2:=hid e2;rw[sN]at HC;have ahN:(nth q.K k == 22)=false:=by simp[h22]
     generalize nth q.K k=kk at *;clear sN e1 e2 Gj;go_wp2_with (first | (go_at_call 202;refine(HC.out _).mono ?_;rintro e w' ⟨rfl,rfl⟩));go_roundw
     case rel=>exact⟨k+1,D,by go_num,by omega,hid (by rw[kX.out,<-HN.out];exact AD.out),hid (Xd.out.mono (by omega)),hid (by rw[HE2.out];exact HI.out),Dz⟩
     case measure=>simp[intOf];omega
   ·obtain⟨e1,e2⟩:=Gj.out.1 sN
    have kX:=hid e1;have HE2:=hid e2;rw[sN]at HC;generalize nth q.K k=kk at *;clear sN e1 e2 Gj;go_wp2_with (first | (go_at_call 202;refine(HC.out _).mono ?_;rintro e w' ⟨rfl,rfl⟩) | (at_builtin;refine fV _ rfl _ _ 32 rfl (w.heap.size+1) 3 i0 _ 1 8 underlying32 hi hz0 hz1 hz2 rfl (by decide) _ n (jk (iT q.K k).reverse) rfl ?own _ 1 1 [.int .i64 k] rfl rfl (kM _ _ _ _ (by simp)) (one_cell _) (by unfold maxLen;omega) (by omega) ?Gk ?_))
    case own=>exact iM AD.out ((Fr.refl [] _).alloc _)
    case Gk=>simp;omega
    intro v' w3 lK hgrow hnil;have Xe:=hid ((Xd.out.alloc (.cells #[.int .i64 k] 3)).kept hgrow (fun e=>by have h5:=(AD.out.lt _ e.symm).1;omega));have jQ:=hid (Fr.grown (Dz.out.alloc (.cells #[.int .i64 k] 3)) hgrow (fun y hy=>by have h5:=(AD.out.lt _ hy).1;omega))
    have lD:=hid (show w3.ownsRow (w.heap.size+1) 3 1 v' (k :: iT q.K k).length (jk (k :: iT q.K k).reverse) by
     rw[List.reverse_cons,<-sM,bg,<-HN.out];exact lK)
    clear lK hgrow hnil;go_wp2;go_roundw
    case rel=>exact⟨k+1,D,by go_num,by omega,hid (by rw[kX.out];exact lD.out),hid (Xe.out.mono (by omega)),hid (by rw[HE2.out];exact HI.out),jQ⟩
    case measure=>simp[intOf];omega
  ·have hke:k=q.n:=by omega
   have HMZ:=hid (show tU D (j9.partAt q.K q.n) by rw[<-hke];exact HI.out);have HMY:=hid (show wr.ownsMap prog 3 (plainElem prog 3) w.heap.size q.n D by rw[<-hke];exact HM.out);have wX:¬(k:Int)<(q.n:Int):=by omega
   clear hke;go_wp2;go_ret;exact⟨rfl,⟨D,HMY.out,HMZ.out⟩,HF.out⟩
structure QM (w:World)(q:UH)(P cU mb n:Nat)(lv:Int)(D:DataW Unit):Prop where
 s:QS w q P cU lv
 c1:w.cell? ⟨P,1,none⟩=some (.map (some mb))
 m:w.ownsMap prog 3 (plainElem prog 3) mb n D
 i:tU D (j9.partAt q.K q.n)
theorem QM.fr {T:List Nat}{w w':World}{q:UH}{P cU mb n:Nat}{lv:Int}{D:DataW Unit}(h:QM w q P cU mb n lv D)(hf:Fr T w w')(hP:P ∉ T)(hm:mb ∉ T):QM w' q P cU mb n lv D:=by
 refine⟨h.s.fr hf hP,hf.cell h.c1 hP,?_,h.i⟩;obtain⟨es,clock,hb,r⟩:=h.m;exact⟨es,clock,(hf.block mb (aC.1 hb).1 hm).trans hb,r⟩
theorem z8 (c:List Int)(i to':Nat)(h:to'<=i):strong c i to'=false:=by
 unfold strong;cases to' - i with
 | zero=>rfl
 | succ f=>rw[lW,aE h]
theorem Gl (q:UH)(C L:List Int)(P cU mb n:Nat)(lv:Int)(D:DataW Unit)(i0 t:Nat)(w:World)(hu:US w q C L)(hq:QM w q P cU mb n lv D)(hK:q.K.length=q.n)(hn:q.n<=1000000)(ht:t<=q.n)(hi0:i0<=1000000) :
 Calls prog 164 #[.pointer (some ⟨P,0,none⟩),.int .i64 i0,.int .i64 t] w fun e w'=>e=.returned (.bool (strong q.K i0 t))/\w'=w:=by
 have c0:=hq.s.c0;have c1:=hq.c1;have HU:=hid hu;have HM:=hid hq.m;have HI:=hid hq.i;have HK:=hid hK;obtain⟨R,hR⟩:∃R,R=strong q.K i0 t:=⟨_,rfl⟩;have HR:=hid hR;rw[<-hR];clear hu hq hR hK;go_enter func164,ntmps164;go_wp2;go_loopw [7] (fun a wr=>∃(i:Nat),a=.int .i64 i/\i<=1000001/\Hid (R=strong q.K i t)/\wr=w) (fun a _=>t - (intOf a).toNat)
 case atStart=>exact⟨i0,rfl,by omega,HR,rfl⟩
 case round =>
  obtain⟨i,rfl,hib,Tt,rfl⟩:=hrel;by_cases hlt:i<t
  ·have y_:(i:Int)<(t:Int):=by omega
   have hin:i<q.n:=by omega
   have ahQ:(i:Int)<(q.n:Int):=by omega
   have p1:=HU.out.k i hin;have HST:=hid (Tt.out.trans (F5 q.K i t hlt));have HC:=hid (xN (nth q.K i));have Xf:=hid (pU q.K i (by rw[HK.out];exact hin));rw[HK.out]at Xf;generalize hy:nth q.K i=y at *;by_cases h0:y=0
   ·subst h0
    have Xg:=hid (show R=false by have:=HST.out;simpa using this);go_wp2;go_ret;exact⟨tF Xg.out.symm,rfl⟩
   ·by_cases h1:y=1\/y=2
    ·have Xg:=hid (show R=true by have:=HST.out;rw[ay h0,aE h1]at this;exact this)
     rcases h1 with rfl | rfl
     all_goals (
      go_wp2
      go_ret
      exact⟨tF Xg.out.symm,rfl⟩)
    ·have y1:¬y=1:=fun h=>h1 (.inl h)
     have y2:¬y=2:=fun h=>h1 (.inr h)
     have y0b:(y == 0)=false:=by simp[h0]
     have y1b:(y == 1)=false:=by simp[y1]
     have y2b:(y == 2)=false:=by simp[y2]
     have HS2:=hid (show R=if mh y then(match nO q.K i with | none=>false | some m=>if t<=m then false else strong q.K (m+1) t)else strong q.K (i+1) t by have:=HST.out;rw[ay h0,ay h1]at this;exact this);clear HST h1;cases sN:mh y
     ·rw[sN]at HC HS2
      have Cu:=hid (show R=strong q.K (i+1) t from HS2.out);clear sN HS2;go_wp2_with (first | (go_at_call 202;refine(HC.out _).mono ?_;rintro e w' ⟨rfl,rfl⟩));go_roundw
      case rel=>exact⟨i+1,by go_num,by omega,Cu,by first | rfl | trivial⟩
      case measure=>simp[intOf];omega
     ·rw[sN]at HC HS2 Xf
      have Xh:=hid (show j9.partAt q.K q.n i=nO q.K i from Xf.out);cases hmt:nO q.K i with
      | none =>
        have Xg:=hid (show R=false by have:=HS2.out;rw[hmt]at this;exact this);have hhas:Maps.has D (kN i)=false:=by rw[(HI.out.2 i).1,Xh.out,hmt];rfl
        clear sN HS2 hmt;go_wp2_with (first | (go_at_call 202;refine(HC.out _).mono ?_;rintro e w' ⟨rfl,rfl⟩) | (at_lookup;refine gK _ rfl _ _ 258 rfl 3 3 .i64 sX underlying258 underlying3 (Cr _) mb n D rfl HM.out _ (kN i) rfl (keyOf_int_mk underlying3 (f_ (by omega))) ?_;intro c hat hwc;rw[hhas]));go_ret;exact⟨tF Xg.out.symm,rfl⟩
      | some mm =>
        have Xi:=EN _ _ _ hmt;rw[HK.out]at Xi;have ahR:=A4 _ _ _ hmt;have hhas:Maps.has D (kN i)=true:=by rw[(HI.out.2 i).1,Xh.out,hmt];rfl
        have HAT:=hid ((HI.out.2 i).2 mm (by rw[Xh.out,hmt]))
        have Cu:=hid (show R=strong q.K (mm+1) t by
         have h5:=HS2.out
         rw[hmt]at h5
         dsimp only at h5
         rw[aE rfl]at h5
         by_cases Zw:t<=mm
         ·rw[aE Zw]at h5;rw[h5,z8 _ _ _ (by omega)]
         ·rw[ay Zw]at h5;exact h5)
        clear sN HS2 hmt;go_wp2_with (first | (go_at_call 202;refine(HC.out _).mono ?_;rintro e w' ⟨rfl,rfl⟩) | (at_lookup;refine gK _ rfl _ _ 258 rfl 3 3 .i64 sX underlying258 underlying3 (Cr _) mb n D rfl HM.out _ (kN i) rfl (keyOf_int_mk underlying3 (f_ (by omega))) ?_;intro c hat hwc;rw[hhas];obtain rfl:c=(mm:Int):=(by have h5:=hat.symm.trans (HAT.out _);simpa using h5);clear hat hwc));go_roundw
        case rel=>exact⟨mm+1,by go_num,by omega,Cu,by first | rfl | trivial⟩
        case measure=>simp[intOf];omega
  ·have Xg:=hid (show R=false by rw[Tt.out];exact z8 _ _ _ (by omega))
   have y_:¬(i:Int)<(t:Int):=by omega
   go_wp2;go_ret;exact⟨tF Xg.out.symm,rfl⟩
theorem Cv (q:UH)(C L:List Int)(P cU mb n:Nat)(lv:Int)(D:DataW Unit)(i:Nat)(w:World)(hu:US w q C L)(hq:QM w q P cU mb n lv D)(hK:q.K.length=q.n)(hn:q.n<=1000000)(hi:i<q.n)(sN:mh (nth q.K i)=true) :
 Calls prog 170 #[.pointer (some ⟨P,0,none⟩),.int .i64 i] w fun e w'=>e=.returned (.bool (j_ q.K i))/\w'=w:=by
 have c0:=hq.s.c0;have c1:=hq.c1;have p1:=hu.k i hi;have HM:=hid hq.m;have HI:=hid hq.i;have HS:=hid (fun t (ht:t<=q.n)=>Gl q C L P cU mb n lv D (i+1) t w hu hq hK hn ht (by omega));have Xh:=hid (show j9.partAt q.K q.n i=nO q.K i by have:=pU q.K i (by rw[hK];exact hi);rw[hK,sN]at this;exact this);have y_:(i:Int)<(q.n:Int):=by omega
 have HO:=hid (show j_ q.K i=if nth q.K i=21 then strong q.K (i+1) ((nO q.K i).getD q.n)else(nth q.K i == 16 || nth q.K i == 17 || nth q.K i == 20) by rw[<-hK];rfl);have HK:=hid hK;generalize j_ q.K i=R at *;generalize hy:nth q.K i=y at *;have hc:y=19\/y=20\/y=21:=by unfold mh at sN;simp at sN;omega
 clear hu hq sN hK hy
 rcases hc with rfl | rfl | rfl
 ·have HR:=hid (show R=false from HO.out)
  go_enter func170,ntmps170;go_wp2;go_ret;exact⟨tF HR.out.symm,rfl⟩
 ·have HR:=hid (show R=true from HO.out)
  go_enter func170,ntmps170;go_wp2;go_ret;exact⟨tF HR.out.symm,rfl⟩
 ·have HR:=hid (show R=strong q.K (i+1) ((nO q.K i).getD q.n)from HO.out)
  cases hmt:nO q.K i with
  | none =>
    rw[hmt]at HR;have hhas:Maps.has D (kN i)=false:=by rw[(HI.out.2 i).1,Xh.out,hmt];rfl
    have l9:Hid (Calls prog 164 #[.pointer (some ⟨P,0,none⟩),.int .i64 ((i:Int)+1),.int .i64 q.n] w fun e w'=>e=.returned (.bool R)/\w'=w):=hid (by have h5:=HS.out q.n (au _);rw[eA]at h5;rw[HR.out];exact h5);clear hmt HS;go_enter func170,ntmps170;go_wp2_with (first | (go_at_call 164;refine l9.out.mono ?_;rintro e w' ⟨rfl,rfl⟩) | (at_lookup;refine gK _ rfl _ _ 258 rfl 3 3 .i64 sX underlying258 underlying3 (Cr _) mb n D rfl HM.out _ (kN i) rfl (keyOf_int_mk underlying3 (f_ (by omega))) ?_;intro c hat hwc;rw[hhas];clear hat hwc));go_ret;exact⟨rfl,rfl⟩
  | some mm =>
    rw[hmt]at HR;have Xi:=EN _ _ _ hmt;rw[HK.out]at Xi;have hhas:Maps.has D (kN i)=true:=by rw[(HI.out.2 i).1,Xh.out,hmt];rfl
    have HAT:=hid ((HI.out.2 i).2 mm (by rw[Xh.out,hmt]));have l9:Hid (Calls prog 164 #[.pointer (some ⟨P,0,none⟩),.int .i64 ((i:Int)+1),.int .i64 mm] w fun e w'=>e=.returned (.bool R)/\w'=w):=hid (by have h5:=HS.out mm (by omega);rw[eA]at h5;rw[HR.out];exact h5);clear hmt HS;go_enter func170,ntmps170;go_wp2_with (first | (go_at_call 164;refine l9.out.mono ?_;rintro e w' ⟨rfl,rfl⟩) | (at_lookup;refine gK _ rfl _ _ 258 rfl 3 3 .i64 sX underlying258 underlying3 (Cr _) mb n D rfl HM.out _ (kN i) rfl (keyOf_int_mk underlying3 (f_ (by omega))) ?_;intro c hat hwc;rw[hhas];obtain rfl:c=(mm:Int):=(by have h5:=hat.symm.trans (HAT.out _);simpa using h5);clear hat hwc));go_ret;exact⟨rfl,rfl⟩
theorem xJ (q:UH)(C L:List Int)(P cU mb n:Nat)(lv:Int)(D:DataW Unit)(b:Int)(w:World)(hu:US w q C L)(hq:QM w q P cU mb n lv D)(hK:q.K.length=q.n)(hn:q.n<=1000000)(hb:b=0\/b=1\/b=2) :
 Calls prog 136 #[.pointer (some ⟨P,0,none⟩),.int .i64 b] w fun e w'=>e=.returned (.int .i64 (j0 q.K b))/\w'=w:=by
 have c0:=hq.s.c0;have HS:=hid (Gl q C L P cU mb n lv D 0 q.n w hu hq hK hn (au _) (aN _));have HB:=hid (fun b w=>Cj b w);have HR:=hid (show j0 q.K b=if b=2 then(if strong q.K 0 q.n then 1 else 0)else b by rw[<-hK];rfl);generalize j0 q.K b=R at *;generalize strong q.K 0 q.n=sg at *;clear hu hq hK
 rcases hb with rfl | rfl | rfl
 ·have HR2:=hid (show R=0 from HR.out)
  go_enter func136,ntmps136;go_wp2_with (first | (go_at_call 165;refine(HB.out _ _).mono ?_;rintro e w' ⟨rfl,rfl⟩));go_ret;exact⟨BC HR2.out.symm,rfl⟩
 ·have HR2:=hid (show R=1 from HR.out)
  go_enter func136,ntmps136;go_wp2_with (first | (go_at_call 165;refine(HB.out _ _).mono ?_;rintro e w' ⟨rfl,rfl⟩));go_ret;exact⟨BC HR2.out.symm,rfl⟩
 ·have HR2:=hid (show R=if sg then 1 else 0 from HR.out)
  cases sg
  all_goals (
   go_enter func136,ntmps136
   go_wp2_with (first | (go_at_call 164;refine HS.out.mono ?_;rintro e w' ⟨rfl,rfl⟩) | (go_at_call 165;refine(HB.out _ _).mono ?_;rintro e w' ⟨rfl,rfl⟩))
   go_ret
   exact⟨BC HR2.out.symm,rfl⟩)
end Go.Proofs.YtnakejhohdbfdacGreatDoor

import Derived.Test.YtnakejhohdbfdaaGreatDoorVah
import Derived.Maps.OwnSet
set_option maxHeartbeats 4000000
set_option maxRecDepth 10000
set_option linter.unusedSimpArgs false
namespace Go.Proofs.YtnakejhohdbfdaaGreatDoor
open Go.RowKit jN Go.Proofs.Tryz
structure QS (w:World)(q:UH)(P cU:Nat)(lv:Int):Prop where
 c0:w.cell? ⟨P,0,none⟩=some (.slice (some ⟨q.U,0,none⟩) q.n cU)
 c2:w.cell? ⟨P,2,none⟩=some (.int .i64 lv)
 ne:P≠q.U
theorem QS.fr {T:List Nat}{w w':World}{q:UH}{P cU:Nat}{lv:Int}(h:QS w q P cU lv)(hf:Fr T w w')(hP:P ∉ T):QS w' q P cU lv:=⟨hf.cell h.c0 hP,hf.cell h.c2 hP,h.ne⟩
theorem QS.KM {w w':World}{q:UH}{P cU:Nat}{lv:Int}(h:QS w q P cU lv)(hf:Fr [q.U] w w'):QS w' q P cU lv:=h.fr hf (fun e=>h.ne (aj.1 e))
theorem JK (K:List Int)(base:Int)(i:Nat)(L:List Int) :
 (gone (nth K i)=true->jA K base (i+1) L=((jA K base i L).1,(jA K base i L).2.set i (jA K base i L).1))/\(gone (nth K i)=false->jA K base (i+1) L=(nth (jA K base i L).2 i,(jA K base i L).2)):=by
 refine⟨fun h=>?_,fun h=>?_⟩
 ·rw[jA,ay h]
 ·rw[jA,au (by rw[h];exact aE)]
theorem BW (q:UH)(C L:List Int)(P cU:Nat)(lv:Int)(w:World)(hu:US w q C L)(hq:QS w q P cU lv)(hn:q.n<=1000000) :
 Calls prog 80 #[.pointer (some ⟨P,0,none⟩)] w fun e w'=>e=.returned (.tuple #[])/\US w' q C (jA q.K lv q.n L).2/\Fr [q.U] w w':=by
 have c0:=hq.c0;have c2:=hq.c2;have nP:=hq.ne;have HU:=hid hu;have HQ:=hid hq;clear hu hq;go_enter func80,ntmps80;go_wp2;go_loopw [2,13] (fun x a wr=>∃(i:Nat),x=.int .i64 (jA q.K lv i L).1/\a=.int .i64 i/\i<=q.n/\Hid (US wr q C (jA q.K lv i L).2)/\Hid (Fr [q.U] w wr)) (fun _ a _=>q.n - (intOf a).toNat)
 case atStart=>exact⟨0,rfl,rfl,aH _,HU,hid (Fr.refl _ _)⟩
 case round =>
  obtain⟨i,rfl,rfl,hin,HP,HF⟩:=hrel;by_cases hlt:i<q.n
  ·have d0:=(HQ.out.KM HF.out).c0
   have p1:=HP.out.k i hlt;have p2:=HP.out.l i hlt;have p3:=HP.out.soft (i * 4+3) (by omega);have IB:=hid (fun z=>HP.out.DH hlt z);have mo:=hid (JK q.K lv i L);have sZ:=hid HP.out.lL;generalize rN:jA q.K lv (i+1) L=N2 at *;have lQ:=hid rN;clear rN;generalize jA q.K lv i L=N at *;obtain⟨x,N⟩:=N;dsimp only at *;have HC:=hid (Ce (nth q.K i));have sY:(i:Int)<(q.n:Int):=by omega
   have hsame:=IB.out x;have r0:=hsame.l i hlt;rw[sJ _ _ _ _ (by rw[sZ.out];exact hlt),ay rfl]at r0;have r1:(w.cell? ⟨P,0,none⟩=some (.slice (some ⟨q.U,0,none⟩) q.n cU)):=c0;have r2:=(HQ.out.KM (HF.out.set (b:=q.U) (i:=i * 4+3) (aj.2 rfl) (.int .i64 x))).c0;clear hsame r1;cases hg:gone (nth q.K i)
   ·have HN:=hid (mo.out.2 hg)
    rw[hg]at HC;generalize nth q.K i=kk at *;generalize nth N i=z at *;clear mo hg r0 r2;go_wp2_with (first | (go_at_call 158;refine(HC.out _).mono ?_;rintro e w' ⟨rfl,rfl⟩));go_roundw
    case rel=>exact⟨i+1,by rw[lQ.out,HN.out],by go_num,by omega,hid (by rw[lQ.out,HN.out];exact HP.out),HF⟩
    case measure=>simp[intOf];omega
   ·have HN:=hid (mo.out.1 hg)
    rw[hg]at HC;generalize nth q.K i=kk at *;generalize nth N i=z at *;clear mo hg;go_wp2_with (first | (go_at_call 158;refine(HC.out _).mono ?_;rintro e w' ⟨rfl,rfl⟩));go_roundw
    case rel=>exact⟨i+1,by rw[lQ.out,HN.out],by go_num,by omega,hid (by rw[lQ.out,HN.out];exact IB.out x),hid (HF.out.set (aj.2 rfl) _)⟩
    case measure=>simp[intOf];omega
  ·have hk2:i=q.n:=by omega
   have tH:=hid (show US wr q C (jA q.K lv q.n L).2 by rw[<-hk2];exact HP.out);clear hk2;go_wp2;go_end0;exact⟨rfl,tH.out,HF.out⟩
theorem BZ (q:UH)(C L:List Int)(P cU:Nat)(lv:Int)(w:World)(hu:US w q C L)(hq:QS w q P cU lv)(hn:q.n<=1000000)(hn0:0<q.n) :
 Calls prog 81 #[.pointer (some ⟨P,0,none⟩)] w fun e w'=>∃g,e=.returned (.slice (some ⟨g,0,none⟩) q.n q.n)/\(w.heap.size<=g/\soft w' g q.n)/\rowAt w' g q.n L/\Fr [] w w':=by
 have c0:=hq.c0;have HU:=hid hu;have HQ:=hid hq;have CN:q.U<w.heap.size:=eS _ _ (hu.r 0 hn0);have rW:P<w.heap.size:=eS _ _ c0;obtain⟨i3,hi3,rQ,rS,hz32⟩:=e_ info3;obtain⟨ZL,K1⟩:∃ZL,ZL=madeCells #[.int .i64 0] q.n:=⟨_,rfl⟩;have M5:∀X:World,(Instr.makeSlice 22 (.int .i64 q.n) (.int .i64 q.n)).run prog X=.ok (.slice (some ⟨X.heap.size,0,none⟩) q.n q.n) (X.alloc (.cells ZL 3)):=fun X=>by
  have:=run_make (P:=prog) X 22 3 i3 _ underlying22 hi3 rQ .i64 .i64 q.n q.n (by omega) (dU _) (by rw[hz32];omega) (by omega);rw[rS,dS]at this;rw[K1];exact this
 have HZL:=hid K1;have HO0:=hid (show(w.alloc (.cells ZL 3)).ownsRow w.heap.size 3 1 (.slice (some ⟨w.heap.size,0,none⟩) q.n q.n) q.n ZL.toList from fE (base:=w.heap.size) (e:=3) (size:=1) w ZL q.n (ak _) (by unfold maxLen;omega) (by rw[K1,size_madeCells];omega));clear hu hq K1;go_enter func81,ntmps81;go_wp2;go_loopw [17] (fun a wr=>∃(i:Nat) (xs:List Value),a=.int .i64 i/\i<=q.n/\Hid (Fr [] w wr)/\Hid (wr.ownsRow w.heap.size 3 1 (.slice (some ⟨w.heap.size,0,none⟩) q.n q.n) q.n xs)/\Hid (∀j,j<i->xs[j]?=some (.int .i64 (nth L j)))) (fun a _=>q.n - (intOf a).toNat)
 case atStart=>exact⟨0,_,rfl,aH _,hid ((Fr.refl _ _).alloc _),HO0,hid (fun j hj=>absurd hj (bE _))⟩
 case round =>
  obtain⟨i,xs,rfl,hin,HF,HO,HX⟩:=hrel;have d0:=(HQ.out.fr HF.out af).c0;by_cases hlt:i<q.n
  ·have K2:=hid (HU.out.fr HF.out af)
   have p0:=K2.out.r i hlt;have p1:=K2.out.k i hlt;have p2:=K2.out.c i hlt;have p3:=K2.out.l i hlt;have hsz:=(fZ HO.out).2;have AD:=hid (fS HO.out ((Fr.refl [] wr).alloc (.cells #[.int .i32 (nth q.R i),.int .i64 (nth q.K i),.int .i64 (nth C i),.int .i64 (nth L i)] 202)));have hxl:xs.length=q.n:=by have:=HO.out.1;omega
   have f1:∃u,(wr.alloc (.cells #[.int .i32 (nth q.R i),.int .i64 (nth q.K i),.int .i64 (nth C i),.int .i64 (nth L i)] 202)).cell? ⟨w.heap.size,i,none⟩=some u:=by
    rw[AD.out.cellAt i (by omega),az (by omega)];exact⟨_,rfl⟩
   obtain⟨u,f1⟩:=f1;have f2:=AD.out.frozenAt i;have HST:=hid (HO.out.stored i (.int .i64 (nth L i)));have sY:(i:Int)<(q.n:Int):=by omega
   generalize nth q.R i=a1 at *;generalize nth q.K i=a2 at *;generalize nth C i=a3 at *;generalize hy:nth L i=y at *;have HY:=hid hy;have Ba:q.U<wr.heap.size:=by have:=HF.out.size;omega
   clear hy;go_wp2;go_roundw
   case rel=>exact⟨i+1,_,by go_num,by omega,hid ((Fr.grown HF.out HST.out.2 (fun k hk=>by cases hk;exact ak _)).alloc _),hid (HST.out.1.alloc _),hid (fun j hj=>by
    rcases Nat.lt_succ_iff_lt_or_eq.1 hj with h | h
    ·rw[aU (by omega)];exact HX.out j h
    ·subst h;rw[aQ (by omega),HY.out])⟩
   case measure=>simp[intOf];omega
  ·have hk2:i=q.n:=by omega
   have HXZ:=hid (show ∀j,j<q.n->xs[j]?=some (.int .i64 (nth L j)) by rw[<-hk2];exact HX.out);have sY:¬(i:Int)<(q.n:Int):=by omega
   clear hk2;go_wp2;go_ret;exact⟨w.heap.size,rfl,⟨ak _,fun j _=>HO.out.frozenAt j⟩,fun j hj=>by rw[HO.out.cellAt j (by omega)];exact HXZ.out j hj,HF.out⟩
open Go.Maps
theorem tB:Keyed prog 3:=int_keyed underlying3
theorem CO (w:World):(zeroValue 3).run prog w=.ok (.int .i64 0) w:=by kernel_rfl
abbrev kN (i:Nat):Lit:=.int .i64 (i:Nat)
def uy (D:DataW Unit)(f:Nat->Option Nat):Prop:=IsMap D/\∀i:Nat,Maps.has D (kN i)=(f i).isSome/\∀m,f i=some m->∀z,D.atKey (kN i) z=.lit (.int .i64 (m:Nat))
theorem An:uy (.map []) (fun _=>none):=⟨isMap_empty,fun _=>⟨rfl,fun m h=>by cases h⟩⟩
theorem uz {i:Nat}:WideAt.IsKeyLit (kN i):=by simp[WideAt.IsKeyLit]
theorem zx {i j:Nat}(h:i≠j):kN i≠kN j:=fun e=>h (by simp at e;omega)
theorem uy.put {D:DataW Unit}{f:Nat->Option Nat}(h:uy D f)(a b:Nat):uy (D.put (kN a) (.lit (.int .i64 (b:Nat)))) (fun i=>if i=a then some b else f i):=by
 refine⟨h.1.put _ _,fun i=>?_⟩;by_cases e:i=a
 ·subst e
  dsimp only;rw[ay rfl];exact⟨by rw[has_put_same (k:=kN i) h.1 uz];rfl,fun m hm z=>by cases hm;exact atKey_put_same (k:=kN i) h.1 uz _ z⟩
 ·dsimp only
  rw[au e];exact⟨by rw[has_put_other (zx e)];exact(h.2 i).1,fun m hm z=>by rw[atKey_put_other (zx e)];exact(h.2 i).2 m hm z⟩
theorem nZ {w w':World}{b n:Nat}{D:DataW Unit}(h:w.ownsMap prog 3 (plainElem prog 3) b n D)(hf:Fr [] w w'):w'.ownsMap prog 3 (plainElem prog 3) b n D :=
 h.kept (row:=none) ⟨hf.os,hf.tape,hf.output,hf.size,fun k hk _=>hf.block k hk af⟩ (by simp)
theorem zy {w:World}{B g n cap size:Nat}{e:TypeId}{xs:List Value}(h:w.ownsRow B e size (.slice (some ⟨g,0,none⟩) n cap) n xs):n<=cap:=by
 rcases h.2 with⟨h0,_⟩ | ⟨g',cap',cur,hv,hg,hh,hn,_⟩
 ·cases h0
 ·cases hv;exact hn
theorem JL (K:List Int)(k:Nat) :
 (j6 (nth K k)=true->gy K (k+1)=k :: gy K k/\jN.partAt K (k+1)=jN.partAt K k) /\
 (∀x r,nth K k=22->gy K k=x :: r->gy K (k+1)=r/\jN.partAt K (k+1)=fun i=>if i=x then some k else jN.partAt K k i) /\
 (nth K k=22->gy K k=[]->gy K (k+1)=[]/\jN.partAt K (k+1)=jN.partAt K k) /\
 (j6 (nth K k)=false->¬nth K k=22->gy K (k+1)=gy K k/\jN.partAt K (k+1)=jN.partAt K k):=by
 refine⟨fun h=>⟨by rw[gy,ay h],?_⟩,fun x r h h1=>⟨?_,?_⟩,fun h h1=>⟨?_,?_⟩,fun h h1=>⟨?_,?_⟩⟩
 ·funext i;rw[jN.partAt,au (by rw[h];intro e;cases e.1)]
 ·rw[gy,h,au (by decide),ay rfl,h1];rfl
 ·funext i
  rw[jN.partAt,h,h1];by_cases e:i=x
  ·subst e;rw[ay ⟨by decide,rfl,rfl⟩,ay rfl]
  ·rw[au (fun h2=>e (by have:=h2.2.2;simp at this;exact this.symm)),au e]
 ·rw[gy,h,au (by decide),ay rfl,h1];rfl
 ·funext i
  rw[jN.partAt,h1,au (fun h2=>by have:=h2.2.2;simp at this)]
 ·rw[gy,au (by rw[h];exact aE),au h1]
 ·funext i
  rw[jN.partAt,au (fun h2=>h1 h2.2.1)]
theorem G9 (K:List Int):∀k,(gy K k).length<=k
 | 0=>by simp[gy]
 | k+1=>by
   have ih:=G9 K k;rw[gy];split
   ·simp;omega
   ·split
    ·simp;omega
    ·omega
theorem Bb (K:List Int):∀k,∀x∈gy K k,x<k
 | 0,x,h=>by simp[gy]at h
 | k+1,x,h=>by
   rw[gy]at h;split at h
   ·rcases bK.1 h with e | e
    ·omega
    ·have:=Bb K k x e;omega
   ·split at h
    ·have:=Bb K k x (List.mem_of_mem_tail h);omega
    ·have:=Bb K k x h;omega
theorem Ra (q:UH)(C L:List Int)(cU:Nat)(w:World)(hu:US w q C L)(hn:q.n<=1000000)(hn0:0<q.n) :
 Calls prog 125 #[.slice (some ⟨q.U,0,none⟩) q.n cU] w fun e w'=>e=.returned (.map (some w.heap.size))/\(∃D,w'.ownsMap prog 3 (plainElem prog 3) w.heap.size q.n D/\uy D (jN.partAt q.K q.n))/\Fr [] w w':=by
 obtain⟨i0,hi,hz0,hz1,hz2⟩:=e_ info3;have hmm:=@run_makeMap prog;have HU:=hid hu;have CN:q.U<w.heap.size:=eS _ _ (hu.r 0 hn0);clear hu;go_enter func125,ntmps125;go_wp2;go_loopw [4,11] (fun vo a wr=>∃(k:Nat) (D:DataW Unit),a=.int .i64 k/\k<=q.n/\Hid (wr.ownsRow (w.heap.size+1) 3 1 vo (gy q.K k).length (gz (gy q.K k).reverse))/\Hid (wr.ownsMap prog 3 (plainElem prog 3) w.heap.size k D)/\Hid (uy D (jN.partAt q.K k))/\Hid (Fr [] w wr)) (fun _ a _=>q.n - (intOf a).toNat)
 case atStart=>exact⟨0,_,rfl,aH _,hid (eY _ _ _ _),hid (World.ownsMap_made _ _ _ _),hid An,hid ((Fr.refl _ _).alloc _)⟩
 case round =>
  obtain⟨k,D,rfl,hk,HO,HM,HI,HF⟩:=hrel;by_cases hlt:k<q.n
  ·have K2:=hid (HU.out.fr HF.out af)
   have p0:=K2.out.r k hlt;have p1:=K2.out.k k hlt;have p2:=K2.out.c k hlt;have p3:=K2.out.l k hlt;have hsz:=HF.out.size;have hml:=HM.out.lt;have hol:=G9 q.K k;have Ai:=hid (JL q.K k);obtain⟨a1,c1,hv1⟩:=gA HO.out;obtain⟨n,hn'⟩:∃n,n=(gy q.K k).length:=⟨_,rfl⟩;have HN:=hid hn';rw[<-hn']at hv1 hol;subst hv1;have Ba:q.U<wr.heap.size:=by omega
   have HC:=hid (xY (nth q.K k));obtain⟨bx,hbx⟩:∃bx:Obj,bx=.cells #[.int .i32 (nth q.R k),.int .i64 (nth q.K k),.int .i64 (nth C k),.int .i64 (nth L k)] 202:=⟨_,rfl⟩;have AD:=hid (fS (by have:=HO.out;rw[<-hn']at this;exact this) ((Fr.refl [] wr).alloc bx));have Yl:=hid (HM.out.alloc bx);have oC:=hid (HF.out.alloc bx);rw[hbx]at AD Yl oC;generalize nth q.R k=r1 at *;generalize nth C k=r3 at *;generalize nth L k=r4 at *;clear hbx hn';cases qW:j6 (nth q.K k)
   ·by_cases h22:nth q.K k=22
    ·cases hop:gy q.K k with
     | nil =>
       obtain⟨e1,e2⟩:=Ai.out.2.2.1 h22 hop;have jK:=hid e1;have HE2:=hid e2;have hnz:n=0:=by rw[HN.out,hop];rfl
       rw[h22]at HC p1 AD Yl oC;rw[hop]at AD;subst hnz;have Ol:Hid (∀w,Calls prog 181 #[.int .i64 22] w fun e w'=>e=.returned (.bool false)/\w'=w):=HC;clear qW h22 hop e1 e2 Ai HC;go_wp2_with (first | (go_at_call 181;refine(Ol.out _).mono ?_;rintro e w' ⟨rfl,rfl⟩));go_roundw
       case rel=>exact⟨k+1,D,by go_num,by omega,hid (by rw[jK.out];exact AD.out),hid (Yl.out.mono (by omega)),hid (by rw[HE2.out];exact HI.out),oC⟩
       case measure=>simp[intOf];omega
     | cons x r =>
       obtain⟨e1,e2⟩:=Ai.out.2.1 x r h22 hop;have jK:=hid e1;have HE2:=hid e2;have hnr:n=r.length+1:=by rw[HN.out,hop];rfl
       have hxk:=Bb q.K k x (by rw[hop];exact bA);rw[h22]at HC p1 AD Yl oC;rw[hop,List.reverse_cons]at AD;obtain⟨go,co,hsh⟩:=fR (by omega) AD.out;cases hsh;have hcp:=zy AD.out;have hgo:=fZ AD.out;have f1:∀X:World,X.ownsRow (w.heap.size+1) 3 1 (.slice (some ⟨go,0,none⟩) n c1) n (gz (r.reverse++[x]))->X.cell? ⟨go,r.length,none⟩=some (.int .i64 (x:Nat)):=fun X hX=>by
        rw[hX.cellAt r.length (by omega),<-oz,aI (by simp[gz])];simp[gz]
       have f2:=f1 _ AD.out;have hl1:(n:Int) - 1=(r.length:Int):=by omega
       have hl2:(r.length:Int)<(n:Int):=by omega
       have hl3:(r.length:Int)<=(c1:Int):=by omega
       have hl4:(0:Int)<=(r.length:Int):=by omega
       have Ol:Hid (∀w,Calls prog 181 #[.int .i64 22] w fun e w'=>e=.returned (.bool false)/\w'=w):=HC;obtain⟨lr,hlr⟩:∃lr,lr=r.length:=⟨_,rfl⟩;rw[<-hlr]at f2 hl1 hl2 hl3 hl4;have ZK:=hid hlr;have KQ:=hid hnr;clear qW h22 hop e1 e2 Ai HC f1 hlr hnr;go_wp2_with (first | (go_at_call 181;refine(Ol.out _).mono ?_;rintro e w' ⟨rfl,rfl⟩) | (at_mapUpdate;refine wpList_mapUpdate_own _ rfl _ _ _ 135 rfl 3 3 tB underlying135 _ w.heap.size k D rfl Yl.out (by unfold maxLen;omega) _ _ (kN x) rfl rfl (keyOf_int_mk underlying3 (fB (by omega))) (.lit (.int .i64 (k:Nat))) [] (plainElem_int underlying3 (fB (by omega))) ?_));intro w3 hown3 hgrow3;have HM3:=hid hown3;have k9:=hid (iF AD.out hgrow3 (fun y hy e=>by cases hy;have h5:go=w.heap.size:=bW e;omega));have iO:=hid (oC.out.grown hgrow3 (fun y hy=>by cases hy;exact ak _))
       have jD:=hid (show w3.ownsRow (w.heap.size+1) 3 1 (.slice (some ⟨go,0,none⟩) lr c1) r.length (gz r.reverse) by
        have h5:=pH k9.out (j:=lr) (by have:=KQ.out;have:=ZK.out;omega)
        rw[BJ,List.take_left' (by rw[dW];exact ZK.out.symm)]at h5
        rw[<-ZK.out];exact h5)
       have HI3:=hid (HI.out.put x k);clear hown3 hgrow3;go_wp2;go_roundw
       case rel=>exact⟨k+1,_,by go_num,by omega,hid (by rw[jK.out];exact jD.out),HM3,hid (by rw[HE2.out];exact HI3.out),iO⟩
       case measure=>simp[intOf];omega
    ·obtain⟨e1,e2⟩:=Ai.out.2.2.2 qW h22
     have jK:=hid e1;have HE2:=hid e2;rw[qW]at HC;have akZ:(nth q.K k == 22)=false:=by simp[h22]
     generalize nth q.K k=kk at *;clear qW e1 e2 Ai;go_wp2_with (first | (go_at_call 181;refine(HC.out _).mono ?_;rintro e w' ⟨rfl,rfl⟩));go_roundw
     case rel=>exact⟨k+1,D,by go_num,by omega,hid (by rw[jK.out,<-HN.out];exact AD.out),hid (Yl.out.mono (by omega)),hid (by rw[HE2.out];exact HI.out),oC⟩
     case measure=>simp[intOf];omega
   ·obtain⟨e1,e2⟩:=Ai.out.1 qW
    have jK:=hid e1;have HE2:=hid e2;rw[qW]at HC;generalize nth q.K k=kk at *;clear qW e1 e2 Ai;go_wp2_with (first | (go_at_call 181;refine(HC.out _).mono ?_;rintro e w' ⟨rfl,rfl⟩) | (at_builtin;refine eV _ rfl _ _ 22 rfl (w.heap.size+1) 3 i0 _ 1 8 underlying22 hi hz0 hz1 hz2 rfl (by decide) _ n (gz (gy q.K k).reverse) rfl ?own _ 1 1 [.int .i64 k] rfl rfl (iC _ _ _ _ (by simp)) (one_cell _) (by unfold maxLen;omega) (by omega) ?nY ?_))
    case own=>exact fS AD.out ((Fr.refl [] _).alloc _)
    case nY=>simp;omega
    intro v' w3 gM hgrow hnil;have HM3:=hid ((Yl.out.alloc (.cells #[.int .i64 k] 3)).kept hgrow (fun e=>by have h5:=(AD.out.lt _ e.symm).1;omega));have iO:=hid (Fr.grown (oC.out.alloc (.cells #[.int .i64 k] 3)) hgrow (fun y hy=>by have h5:=(AD.out.lt _ hy).1;omega))
    have k9:=hid (show w3.ownsRow (w.heap.size+1) 3 1 v' (k :: gy q.K k).length (gz (k :: gy q.K k).reverse) by
     rw[List.reverse_cons,<-oz,bO,<-HN.out];exact gM)
    clear gM hgrow hnil;go_wp2;go_roundw
    case rel=>exact⟨k+1,D,by go_num,by omega,hid (by rw[jK.out];exact k9.out),hid (HM3.out.mono (by omega)),hid (by rw[HE2.out];exact HI.out),iO⟩
    case measure=>simp[intOf];omega
  ·have hke:k=q.n:=by omega
   have HMZ:=hid (show uy D (jN.partAt q.K q.n) by rw[<-hke];exact HI.out);have HMY:=hid (show wr.ownsMap prog 3 (plainElem prog 3) w.heap.size q.n D by rw[<-hke];exact HM.out);have sX:¬(k:Int)<(q.n:Int):=by omega
   clear hke;go_wp2;go_ret;exact⟨rfl,⟨D,HMY.out,HMZ.out⟩,HF.out⟩
structure QM (w:World)(q:UH)(P cU mb n:Nat)(lv:Int)(D:DataW Unit):Prop where
 s:QS w q P cU lv
 c1:w.cell? ⟨P,1,none⟩=some (.map (some mb))
 m:w.ownsMap prog 3 (plainElem prog 3) mb n D
 i:uy D (jN.partAt q.K q.n)
theorem QM.fr {T:List Nat}{w w':World}{q:UH}{P cU mb n:Nat}{lv:Int}{D:DataW Unit}(h:QM w q P cU mb n lv D)(hf:Fr T w w')(hP:P ∉ T)(hm:mb ∉ T):QM w' q P cU mb n lv D:=by
 refine⟨h.s.fr hf hP,hf.cell h.c1 hP,?_,h.i⟩;obtain⟨es,clock,hb,r⟩:=h.m;exact⟨es,clock,(hf.block mb (aD.1 hb).1 hm).trans hb,r⟩
theorem Ao (c:List Int)(i to':Nat)(h:to'<=i):strong c i to'=false:=by
 unfold strong;cases to' - i with
 | zero=>rfl
 | succ f=>rw[k_,ay h]
theorem G_ (q:UH)(C L:List Int)(P cU mb n:Nat)(lv:Int)(D:DataW Unit)(i0 t:Nat)(w:World)(hu:US w q C L)(hq:QM w q P cU mb n lv D)(hK:q.K.length=q.n)(hn:q.n<=1000000)(ht:t<=q.n)(hi0:i0<=1000000) :
 Calls prog 126 #[.pointer (some ⟨P,0,none⟩),.int .i64 i0,.int .i64 t] w fun e w'=>e=.returned (.bool (strong q.K i0 t))/\w'=w:=by
 have c0:=hq.s.c0;have c1:=hq.c1;have HU:=hid hu;have HM:=hid hq.m;have HI:=hid hq.i;have HK:=hid hK;obtain⟨R,hR⟩:∃R,R=strong q.K i0 t:=⟨_,rfl⟩;have HR:=hid hR;rw[<-hR];clear hu hq hR hK;go_enter func126,ntmps126;go_wp2;go_loopw [7] (fun a wr=>∃(i:Nat),a=.int .i64 i/\i<=1000001/\Hid (R=strong q.K i t)/\wr=w) (fun a _=>t - (intOf a).toNat)
 case atStart=>exact⟨i0,rfl,by omega,HR,rfl⟩
 case round =>
  obtain⟨i,rfl,hib,ZY,rfl⟩:=hrel;by_cases hlt:i<t
  ·have sY:(i:Int)<(t:Int):=by omega
   have hin:i<q.n:=by omega
   have ak2:(i:Int)<(q.n:Int):=by omega
   have p1:=HU.out.k i hin;have HST:=hid (ZY.out.trans (zZ q.K i t hlt));have HC:=hid (xY (nth q.K i));have XF:=hid (pO q.K i (by rw[HK.out];exact hin));rw[HK.out]at XF;generalize hy:nth q.K i=y at *;by_cases h0:y=0
   ·subst h0
    have M6:=hid (show R=false by have:=HST.out;simpa using this);go_wp2;go_ret;exact⟨nF M6.out.symm,rfl⟩
   ·by_cases h1:y=1\/y=2
    ·have M6:=hid (show R=true by have:=HST.out;rw[au h0,ay h1]at this;exact this)
     rcases h1 with rfl | rfl
     all_goals (
      go_wp2
      go_ret
      exact⟨nF M6.out.symm,rfl⟩)
    ·have y1:¬y=1:=fun h=>h1 (.inl h)
     have y2:¬y=2:=fun h=>h1 (.inr h)
     have y0b:(y == 0)=false:=by simp[h0]
     have y1b:(y == 1)=false:=by simp[y1]
     have y2b:(y == 2)=false:=by simp[y2]
     have HS2:=hid (show R=if j6 y then(match kP q.K i with | none=>false | some m=>if t<=m then false else strong q.K (m+1) t)else strong q.K (i+1) t by have:=HST.out;rw[au h0,au h1]at this;exact this);clear HST h1;cases qW:j6 y
     ·rw[qW]at HC HS2
      have Xr:=hid (show R=strong q.K (i+1) t from HS2.out);clear qW HS2;go_wp2_with (first | (go_at_call 181;refine(HC.out _).mono ?_;rintro e w' ⟨rfl,rfl⟩));go_roundw
      case rel=>exact⟨i+1,by go_num,by omega,Xr,by first | rfl | trivial⟩
      case measure=>simp[intOf];omega
     ·rw[qW]at HC HS2 XF
      have Ym:=hid (show jN.partAt q.K q.n i=kP q.K i from XF.out);cases hmt:kP q.K i with
      | none =>
        have M6:=hid (show R=false by have:=HS2.out;rw[hmt]at this;exact this);have hhas:Maps.has D (kN i)=false:=by rw[(HI.out.2 i).1,Ym.out,hmt];rfl
        clear qW HS2 hmt;go_wp2_with (first | (go_at_call 181;refine(HC.out _).mono ?_;rintro e w' ⟨rfl,rfl⟩) | (at_lookup;refine wpList_lookup_own_ok_int _ rfl _ _ 135 rfl 3 3 .i64 tB underlying135 underlying3 (CO _) mb n D rfl HM.out _ (kN i) rfl (keyOf_int_mk underlying3 (fB (by omega))) ?_;intro c hat hwc;rw[hhas]));go_ret;exact⟨nF M6.out.symm,rfl⟩
      | some mm =>
        have UP:=xP _ _ _ hmt;rw[HK.out]at UP;have ak3:=xO _ _ _ hmt;have hhas:Maps.has D (kN i)=true:=by rw[(HI.out.2 i).1,Ym.out,hmt];rfl
        have HAT:=hid ((HI.out.2 i).2 mm (by rw[Ym.out,hmt]))
        have Xr:=hid (show R=strong q.K (mm+1) t by
         have h5:=HS2.out
         rw[hmt]at h5
         dsimp only at h5
         rw[ay rfl]at h5
         by_cases WU:t<=mm
         ·rw[ay WU]at h5;rw[h5,Ao _ _ _ (by omega)]
         ·rw[au WU]at h5;exact h5)
        clear qW HS2 hmt;go_wp2_with (first | (go_at_call 181;refine(HC.out _).mono ?_;rintro e w' ⟨rfl,rfl⟩) | (at_lookup;refine wpList_lookup_own_ok_int _ rfl _ _ 135 rfl 3 3 .i64 tB underlying135 underlying3 (CO _) mb n D rfl HM.out _ (kN i) rfl (keyOf_int_mk underlying3 (fB (by omega))) ?_;intro c hat hwc;rw[hhas];obtain rfl:c=(mm:Int):=(by have h5:=hat.symm.trans (HAT.out _);simpa using h5);clear hat hwc));go_roundw
        case rel=>exact⟨mm+1,by go_num,by omega,Xr,by first | rfl | trivial⟩
        case measure=>simp[intOf];omega
  ·have M6:=hid (show R=false by rw[ZY.out];exact Ao _ _ _ (by omega))
   have sY:¬(i:Int)<(t:Int):=by omega
   go_wp2;go_ret;exact⟨nF M6.out.symm,rfl⟩
theorem CQ (q:UH)(C L:List Int)(P cU mb n:Nat)(lv:Int)(D:DataW Unit)(i:Nat)(w:World)(hu:US w q C L)(hq:QM w q P cU mb n lv D)(hK:q.K.length=q.n)(hn:q.n<=1000000)(hi:i<q.n)(qW:j6 (nth q.K i)=true) :
 Calls prog 132 #[.pointer (some ⟨P,0,none⟩),.int .i64 i] w fun e w'=>e=.returned (.bool (jm q.K i))/\w'=w:=by
 have c0:=hq.s.c0;have c1:=hq.c1;have p1:=hu.k i hi;have HM:=hid hq.m;have HI:=hid hq.i;have HS:=hid (fun t (ht:t<=q.n)=>G_ q C L P cU mb n lv D (i+1) t w hu hq hK hn ht (by omega));have Ym:=hid (show jN.partAt q.K q.n i=kP q.K i by have:=pO q.K i (by rw[hK];exact hi);rw[hK,qW]at this;exact this);have sY:(i:Int)<(q.n:Int):=by omega
 have HO:=hid (show jm q.K i=if nth q.K i=21 then strong q.K (i+1) ((kP q.K i).getD q.n)else(nth q.K i == 16 || nth q.K i == 17 || nth q.K i == 20) by rw[<-hK];rfl);have HK:=hid hK;generalize jm q.K i=R at *;generalize hy:nth q.K i=y at *;have hc:y=19\/y=20\/y=21:=by unfold j6 at qW;simp at qW;omega
 clear hu hq qW hK hy
 rcases hc with rfl | rfl | rfl
 ·have HR:=hid (show R=false from HO.out)
  go_enter func132,ntmps132;go_wp2;go_ret;exact⟨nF HR.out.symm,rfl⟩
 ·have HR:=hid (show R=true from HO.out)
  go_enter func132,ntmps132;go_wp2;go_ret;exact⟨nF HR.out.symm,rfl⟩
 ·have HR:=hid (show R=strong q.K (i+1) ((kP q.K i).getD q.n)from HO.out)
  cases hmt:kP q.K i with
  | none =>
    rw[hmt]at HR;have hhas:Maps.has D (kN i)=false:=by rw[(HI.out.2 i).1,Ym.out,hmt];rfl
    have uj:Hid (Calls prog 126 #[.pointer (some ⟨P,0,none⟩),.int .i64 ((i:Int)+1),.int .i64 q.n] w fun e w'=>e=.returned (.bool R)/\w'=w):=hid (by have h5:=HS.out q.n (ak _);rw[dL]at h5;rw[HR.out];exact h5);clear hmt HS;go_enter func132,ntmps132;go_wp2_with (first | (go_at_call 126;refine uj.out.mono ?_;rintro e w' ⟨rfl,rfl⟩) | (at_lookup;refine wpList_lookup_own_ok_int _ rfl _ _ 135 rfl 3 3 .i64 tB underlying135 underlying3 (CO _) mb n D rfl HM.out _ (kN i) rfl (keyOf_int_mk underlying3 (fB (by omega))) ?_;intro c hat hwc;rw[hhas];clear hat hwc));go_ret;exact⟨rfl,rfl⟩
  | some mm =>
    rw[hmt]at HR;have UP:=xP _ _ _ hmt;rw[HK.out]at UP;have hhas:Maps.has D (kN i)=true:=by rw[(HI.out.2 i).1,Ym.out,hmt];rfl
    have HAT:=hid ((HI.out.2 i).2 mm (by rw[Ym.out,hmt]));have uj:Hid (Calls prog 126 #[.pointer (some ⟨P,0,none⟩),.int .i64 ((i:Int)+1),.int .i64 mm] w fun e w'=>e=.returned (.bool R)/\w'=w):=hid (by have h5:=HS.out mm (by omega);rw[dL]at h5;rw[HR.out];exact h5);clear hmt HS;go_enter func132,ntmps132;go_wp2_with (first | (go_at_call 126;refine uj.out.mono ?_;rintro e w' ⟨rfl,rfl⟩) | (at_lookup;refine wpList_lookup_own_ok_int _ rfl _ _ 135 rfl 3 3 .i64 tB underlying135 underlying3 (CO _) mb n D rfl HM.out _ (kN i) rfl (keyOf_int_mk underlying3 (fB (by omega))) ?_;intro c hat hwc;rw[hhas];obtain rfl:c=(mm:Int):=(by have h5:=hat.symm.trans (HAT.out _);simpa using h5);clear hat hwc));go_ret;exact⟨rfl,rfl⟩
theorem ym (q:UH)(C L:List Int)(P cU mb n:Nat)(lv:Int)(D:DataW Unit)(b:Int)(w:World)(hu:US w q C L)(hq:QM w q P cU mb n lv D)(hK:q.K.length=q.n)(hn:q.n<=1000000)(hb:b=0\/b=1\/b=2) :
 Calls prog 73 #[.pointer (some ⟨P,0,none⟩),.int .i64 b] w fun e w'=>e=.returned (.int .i64 (gS q.K b))/\w'=w:=by
 have c0:=hq.s.c0;have HS:=hid (G_ q C L P cU mb n lv D 0 q.n w hu hq hK hn (ak _) (aH _));have HB:=hid (fun b w=>Cf b w);have HR:=hid (show gS q.K b=if b=2 then(if strong q.K 0 q.n then 1 else 0)else b by rw[<-hK];rfl);generalize gS q.K b=R at *;generalize strong q.K 0 q.n=sg at *;clear hu hq hK
 rcases hb with rfl | rfl | rfl
 ·have HR2:=hid (show R=0 from HR.out)
  go_enter func73,ntmps73;go_wp2_with (first | (go_at_call 127;refine(HB.out _ _).mono ?_;rintro e w' ⟨rfl,rfl⟩));go_ret;exact⟨pE HR2.out.symm,rfl⟩
 ·have HR2:=hid (show R=1 from HR.out)
  go_enter func73,ntmps73;go_wp2_with (first | (go_at_call 127;refine(HB.out _ _).mono ?_;rintro e w' ⟨rfl,rfl⟩));go_ret;exact⟨pE HR2.out.symm,rfl⟩
 ·have HR2:=hid (show R=if sg then 1 else 0 from HR.out)
  cases sg
  all_goals (
   go_enter func73,ntmps73
   go_wp2_with (first | (go_at_call 126;refine HS.out.mono ?_;rintro e w' ⟨rfl,rfl⟩) | (go_at_call 127;refine(HB.out _ _).mono ?_;rintro e w' ⟨rfl,rfl⟩))
   go_ret
   exact⟨pE HR2.out.symm,rfl⟩)
end Go.Proofs.YtnakejhohdbfdaaGreatDoor

import Derived.Test.YtnakejhohdbfdacGreatDoorKMe
import Derived.Test.YtnakejhohdbfdacGreatDoorKMa
import Derived.Test.YtnakejhohdbfdacGreatDoorKMd
import Derived.Maps.OwnSet
namespace Go.Proofs.YtnakejhohdbfdacGreatDoor
open Go.RowKit Lev
structure QS (w:World)(q:UH)(P cU:Nat)(lv:Int):Prop where
 c0:w.cell? ⟨P,0,none⟩=some (.slice (some ⟨q.U,0,none⟩) q.n cU)
 c2:w.cell? ⟨P,2,none⟩=some (.int .i64 lv)
 ne:P≠q.U
theorem QS.fr {T:List Nat}{w w':World}{q:UH}{P cU:Nat}{lv:Int}(h:QS w q P cU lv)(hf:Fr T w w')(hP:P ∉ T):QS w' q P cU lv:=⟨hf.cell h.c0 hP,hf.cell h.c2 hP,h.ne⟩
theorem QS.frU {w w':World}{q:UH}{P cU:Nat}{lv:Int}(h:QS w q P cU lv)(hf:Fr [q.U] w w'):QS w' q P cU lv:=h.fr hf (fun e=>h.ne (List.mem_singleton.1 e))
theorem pass_facts (K:List Int)(base:Int)(i:Nat)(L:List Int) :
 (gone (nth K i)=true→passTo K base (i+1) L=((passTo K base i L).1,(passTo K base i L).2.set i (passTo K base i L).1))∧(gone (nth K i)=false→passTo K base (i+1) L=(nth (passTo K base i L).2 i,(passTo K base i L).2)):=by
 refine⟨fun h=>?_,fun h=>?_⟩
 ·rw[passTo,if_pos h]
 ·rw[passTo,if_neg (by rw[h];exact Bool.false_ne_true)]
set_option linter.unusedSimpArgs false in
set_option maxHeartbeats 4000000 in
theorem fn28_any (q:UH)(C L:List Int)(P cU:Nat)(lv:Int)(w:World)(hu:US w q C L)(hq:QS w q P cU lv)(hn:q.n≤1000000) :
 Calls Tryz.prog 143 #[.pointer (some ⟨P,0,none⟩)] w fun e w'=>e=.returned (.tuple #[])∧US w' q C (passTo q.K lv q.n L).2∧Fr [q.U] w w':=by
 have c0:=hq.c0;have c2:=hq.c2;have nP:=hq.ne;have HU:=hid hu;have HQ:=hid hq;clear hu hq;go_enter Tryz.func143,Tryz.ntmps143;go_wp2;go_loopw [2,13] (fun x a wr=>∃(i:Nat),x=.int .i64 (passTo q.K lv i L).1∧a=.int .i64 i∧i≤q.n∧Hid (US wr q C (passTo q.K lv i L).2)∧Hid (Fr [q.U] w wr)) (fun _ a _=>q.n - (intOf a).toNat)
 case atStart=>exact⟨0,rfl,rfl,Nat.zero_le _,HU,hid (Fr.refl _ _)⟩
 case round =>
  obtain⟨i,rfl,rfl,hin,HP,HF⟩:=hrel;by_cases hlt:i<q.n
  ·have d0:=(HQ.out.frU HF.out).c0
   have p1:=HP.out.k i hlt;have p2:=HP.out.l i hlt;have p3:=HP.out.soft (i * 4+3) (by omega);have HSL:=hid (fun z=>HP.out.setL hlt z);have HNS:=hid (pass_facts q.K lv i L);have HLN:=hid HP.out.lL;generalize hN2:passTo q.K lv (i+1) L=N2 at *;have HN2:=hid hN2;clear hN2;generalize passTo q.K lv i L=N at *;obtain⟨x,N⟩:=N;dsimp only at *;have HC:=hid (fn76_any (nth q.K i));have hiI:(i:Int)<(q.n:Int):=by omega
   have hsame:=HSL.out x;have r0:=hsame.l i hlt;rw[nth_set _ _ _ _ (by rw[HLN.out];exact hlt),if_pos rfl]at r0;have r1:(w.cell? ⟨P,0,none⟩=some (.slice (some ⟨q.U,0,none⟩) q.n cU)):=c0;have r2:=(HQ.out.frU (HF.out.set (b:=q.U) (i:=i * 4+3) (List.mem_singleton.2 rfl) (.int .i64 x))).c0;clear hsame r1;cases hg:gone (nth q.K i)
   ·have HN:=hid (HNS.out.2 hg)
    rw[hg]at HC;generalize nth q.K i=kk at *;generalize nth N i=z at *;clear HNS hg r0 r2;go_wp2_with (first | (go_at_call 196;refine(HC.out _).mono ?_;rintro e w' ⟨rfl,rfl⟩));go_roundw
    case rel=>exact⟨i+1,by rw[HN2.out,HN.out],by go_num,by omega,hid (by rw[HN2.out,HN.out];exact HP.out),HF⟩
    case measure=>simp[intOf];omega
   ·have HN:=hid (HNS.out.1 hg)
    rw[hg]at HC;generalize nth q.K i=kk at *;generalize nth N i=z at *;clear HNS hg;go_wp2_with (first | (go_at_call 196;refine(HC.out _).mono ?_;rintro e w' ⟨rfl,rfl⟩));go_roundw
    case rel=>exact⟨i+1,by rw[HN2.out,HN.out],by go_num,by omega,hid (by rw[HN2.out,HN.out];exact HSL.out x),hid (HF.out.set (List.mem_singleton.2 rfl) _)⟩
    case measure=>simp[intOf];omega
  ·have hk2:i=q.n:=by omega
   have HPZ:=hid (show US wr q C (passTo q.K lv q.n L).2 by rw[←hk2];exact HP.out);clear hk2;go_wp2;go_end0;exact⟨rfl,HPZ.out,HF.out⟩
set_option linter.unusedSimpArgs false in
set_option maxHeartbeats 4000000 in
theorem fn29_any (q:UH)(C L:List Int)(P cU:Nat)(lv:Int)(w:World)(hu:US w q C L)(hq:QS w q P cU lv)(hn:q.n≤1000000)(hn0:0<q.n) :
 Calls Tryz.prog 144 #[.pointer (some ⟨P,0,none⟩)] w fun e w'=>∃g,e=.returned (.slice (some ⟨g,0,none⟩) q.n q.n)∧(w.heap.size≤g∧soft w' g q.n)∧rowAt w' g q.n L∧Fr [] w w':=by
 have c0:=hq.c0;have HU:=hid hu;have HQ:=hid hq;have hUl:q.U<w.heap.size:=World.block_lt_of_cell? _ _ (hu.r 0 hn0);have hPl:P<w.heap.size:=World.block_lt_of_cell? _ _ c0;obtain⟨i3,hi3,hz30,hz31,hz32⟩:=info_parts info3;obtain⟨ZL,hZL⟩:∃ZL,ZL=madeCells #[.int .i64 0] q.n:=⟨_,rfl⟩;have hmk1:∀X:World,(Instr.makeSlice 32 (.int .i64 q.n) (.int .i64 q.n)).run Tryz.prog X=.ok (.slice (some ⟨X.heap.size,0,none⟩) q.n q.n) (X.alloc (.cells ZL 3)):=fun X=>by
  have:=run_make (P:=Tryz.prog) X 32 3 i3 _ Tryz.underlying32 hi3 hz30 .i64 .i64 q.n q.n (by omega) (Int.le_refl _) (by rw[hz32];omega) (by omega);rw[hz31,Nat.mul_one]at this;rw[hZL];exact this
 have HZL:=hid hZL;have HO0:=hid (show(w.alloc (.cells ZL 3)).ownsRow w.heap.size 3 1 (.slice (some ⟨w.heap.size,0,none⟩) q.n q.n) q.n ZL.toList from World.ownsRow_lit (base:=w.heap.size) (e:=3) (size:=1) w ZL q.n (Nat.le_refl _) (by unfold maxLen;omega) (by rw[hZL,size_madeCells];omega));clear hu hq hZL;go_enter Tryz.func144,Tryz.ntmps144;go_wp2;go_loopw [17] (fun a wr=>∃(i:Nat) (xs:List Value),a=.int .i64 i∧i≤q.n∧Hid (Fr [] w wr)∧Hid (wr.ownsRow w.heap.size 3 1 (.slice (some ⟨w.heap.size,0,none⟩) q.n q.n) q.n xs)∧Hid (∀j,j<i→xs[j]?=some (.int .i64 (nth L j)))) (fun a _=>q.n - (intOf a).toNat)
 case atStart=>exact⟨0,_,rfl,Nat.zero_le _,hid ((Fr.refl _ _).alloc _),HO0,hid (fun j hj=>absurd hj (Nat.not_lt_zero _))⟩
 case round =>
  obtain⟨i,xs,rfl,hin,HF,HO,HX⟩:=hrel;have d0:=(HQ.out.fr HF.out List.not_mem_nil).c0;by_cases hlt:i<q.n
  ·have HUX:=hid (HU.out.fr HF.out List.not_mem_nil)
   have p0:=HUX.out.r i hlt;have p1:=HUX.out.k i hlt;have p2:=HUX.out.c i hlt;have p3:=HUX.out.l i hlt;have hsz:=(owns_at HO.out).2;have HOA:=hid (owns_fr0 HO.out ((Fr.refl [] wr).alloc (.cells #[.int .i32 (nth q.R i),.int .i64 (nth q.K i),.int .i64 (nth C i),.int .i64 (nth L i)] 280)));have hxl:xs.length=q.n:=by have:=HO.out.1;omega
   have f1:∃u,(wr.alloc (.cells #[.int .i32 (nth q.R i),.int .i64 (nth q.K i),.int .i64 (nth C i),.int .i64 (nth L i)] 280)).cell? ⟨w.heap.size,i,none⟩=some u:=by
    rw[HOA.out.cellAt i (by omega),List.getElem?_eq_getElem (by omega)];exact⟨_,rfl⟩
   obtain⟨u,f1⟩:=f1;have f2:=HOA.out.frozenAt i;have HST:=hid (HO.out.stored i (.int .i64 (nth L i)));have hiI:(i:Int)<(q.n:Int):=by omega
   generalize nth q.R i=a1 at *;generalize nth q.K i=a2 at *;generalize nth C i=a3 at *;generalize hy:nth L i=y at *;have HY:=hid hy;have hUw:q.U<wr.heap.size:=by have:=HF.out.size;omega
   clear hy;go_wp2;go_roundw
   case rel=>exact⟨i+1,_,by go_num,by omega,hid ((Fr.grown HF.out HST.out.2 (fun k hk=>by cases hk;exact Nat.le_refl _)).alloc _),hid (HST.out.1.alloc _),hid (fun j hj=>by
    rcases Nat.lt_succ_iff_lt_or_eq.1 hj with h | h
    ·rw[List.getElem?_set_ne (by omega)];exact HX.out j h
    ·subst h;rw[List.getElem?_set_self (by omega),HY.out])⟩
   case measure=>simp[intOf];omega
  ·have hk2:i=q.n:=by omega
   have HXZ:=hid (show ∀j,j<q.n→xs[j]?=some (.int .i64 (nth L j)) by rw[←hk2];exact HX.out);have hiI:¬(i:Int)<(q.n:Int):=by omega
   clear hk2;go_wp2;go_ret;exact⟨w.heap.size,rfl,⟨Nat.le_refl _,fun j _=>HO.out.frozenAt j⟩,fun j hj=>by rw[HO.out.cellAt j (by omega)];exact HXZ.out j hj,HF.out⟩
end Go.Proofs.YtnakejhohdbfdacGreatDoor
namespace Go.Proofs.YtnakejhohdbfdacGreatDoor
open Go.RowKit Lev Go.Maps
theorem law3:Keyed Tryz.prog 3:=int_keyed Tryz.underlying3
theorem zero3 (w:World):(zeroValue 3).run Tryz.prog w=.ok (.int .i64 0) w:=by kernel_rfl
abbrev kN (i:Nat):Lit:=.int .i64 (i:Nat)
def mapIs (D:DataW Unit)(f:Nat→Option Nat):Prop:=IsMap D∧∀i:Nat,Maps.has D (kN i)=(f i).isSome∧∀m,f i=some m→∀z,D.atKey (kN i) z=.lit (.int .i64 (m:Nat))
theorem mapIs_empty:mapIs (.map []) (fun _=>none):=⟨isMap_empty,fun _=>⟨rfl,fun m h=>by cases h⟩⟩
theorem key_ok {i:Nat}:WideAt.IsKeyLit (kN i):=by simp[WideAt.IsKeyLit]
theorem kN_inj {i j:Nat}(h:i≠j):kN i≠kN j:=fun e=>h (by simp at e;omega)
theorem mapIs.put {D:DataW Unit}{f:Nat→Option Nat}(h:mapIs D f)(a b:Nat):mapIs (D.put (kN a) (.lit (.int .i64 (b:Nat)))) (fun i=>if i=a then some b else f i):=by
 refine⟨h.1.put _ _,fun i=>?_⟩;by_cases e:i=a
 ·subst e
  dsimp only;rw[if_pos rfl];exact⟨by rw[has_put_same (k:=kN i) h.1 key_ok];rfl,fun m hm z=>by cases hm;exact atKey_put_same (k:=kN i) h.1 key_ok _ z⟩
 ·dsimp only
  rw[if_neg e];exact⟨by rw[has_put_other (kN_inj e)];exact(h.2 i).1,fun m hm z=>by rw[atKey_put_other (kN_inj e)];exact(h.2 i).2 m hm z⟩
theorem owns_map_fr0 {w w':World}{b n:Nat}{D:DataW Unit}(h:w.ownsMap Tryz.prog 3 (plainElem Tryz.prog 3) b n D)(hf:Fr [] w w'):w'.ownsMap Tryz.prog 3 (plainElem Tryz.prog 3) b n D :=
 h.kept (row:=none) ⟨hf.os,hf.tape,hf.output,hf.size,fun k hk _=>hf.block k hk List.not_mem_nil⟩ (by simp)
theorem owns_cap' {w:World}{B g n cap size:Nat}{e:TypeId}{xs:List Value}(h:w.ownsRow B e size (.slice (some ⟨g,0,none⟩) n cap) n xs):n≤cap:=by
 rcases h.2 with⟨h0,_⟩ | ⟨g',cap',cur,hv,hg,hh,hn,_⟩
 ·cases h0
 ·cases hv;exact hn
theorem part_facts (K:List Int)(k:Nat) :
 (ini (nth K k)=true→openAt K (k+1)=k :: openAt K k∧Lev.partAt K (k+1)=Lev.partAt K k) ∧
 (∀x r,nth K k=22→openAt K k=x :: r→openAt K (k+1)=r∧Lev.partAt K (k+1)=fun i=>if i=x then some k else Lev.partAt K k i) ∧
 (nth K k=22→openAt K k=[]→openAt K (k+1)=[]∧Lev.partAt K (k+1)=Lev.partAt K k) ∧
 (ini (nth K k)=false→¬nth K k=22→openAt K (k+1)=openAt K k∧Lev.partAt K (k+1)=Lev.partAt K k):=by
 refine⟨fun h=>⟨by rw[openAt,if_pos h],?_⟩,fun x r h h1=>⟨?_,?_⟩,fun h h1=>⟨?_,?_⟩,fun h h1=>⟨?_,?_⟩⟩
 ·funext i;rw[Lev.partAt,if_neg (by rw[h];intro e;cases e.1)]
 ·rw[openAt,h,if_neg (by decide),if_pos rfl,h1];rfl
 ·funext i
  rw[Lev.partAt,h,h1];by_cases e:i=x
  ·subst e;rw[if_pos ⟨by decide,rfl,rfl⟩,if_pos rfl]
  ·rw[if_neg (fun h2=>e (by have:=h2.2.2;simp at this;exact this.symm)),if_neg e]
 ·rw[openAt,h,if_neg (by decide),if_pos rfl,h1];rfl
 ·funext i
  rw[Lev.partAt,h1,if_neg (fun h2=>by have:=h2.2.2;simp at this)]
 ·rw[openAt,if_neg (by rw[h];exact Bool.false_ne_true),if_neg h1]
 ·funext i
  rw[Lev.partAt,if_neg (fun h2=>h1 h2.2.1)]
theorem open_len (K:List Int):∀k,(openAt K k).length≤k
 | 0=>by simp[openAt]
 | k+1=>by
   have ih:=open_len K k;rw[openAt];split
   ·simp;omega
   ·split
    ·simp;omega
    ·omega
theorem open_lt (K:List Int):∀k,∀x∈openAt K k,x<k
 | 0,x,h=>by simp[openAt]at h
 | k+1,x,h=>by
   rw[openAt]at h;split at h
   ·rcases List.mem_cons.1 h with e | e
    ·omega
    ·have:=open_lt K k x e;omega
   ·split at h
    ·have:=open_lt K k x (List.mem_of_mem_tail h);omega
    ·have:=open_lt K k x h;omega
set_option linter.unusedSimpArgs false in
set_option maxRecDepth 10000 in
set_option maxHeartbeats 4000000 in
theorem fn43_any (q:UH)(C L:List Int)(cU:Nat)(w:World)(hu:US w q C L)(hn:q.n≤1000000)(hn0:0<q.n) :
 Calls Tryz.prog 163 #[.slice (some ⟨q.U,0,none⟩) q.n cU] w fun e w'=>e=.returned (.map (some w.heap.size))∧(∃D,w'.ownsMap Tryz.prog 3 (plainElem Tryz.prog 3) w.heap.size q.n D∧mapIs D (Lev.partAt q.K q.n))∧Fr [] w w':=by
 obtain⟨i0,hi,hz0,hz1,hz2⟩:=info_parts info3;have hmm:=@run_makeMap Tryz.prog;have HU:=hid hu;have hUl:q.U<w.heap.size:=World.block_lt_of_cell? _ _ (hu.r 0 hn0);clear hu;go_enter Tryz.func163,Tryz.ntmps163;go_wp2;go_loopw [4,11] (fun vo a wr=>∃(k:Nat) (D:DataW Unit),a=.int .i64 k∧k≤q.n∧Hid (wr.ownsRow (w.heap.size+1) 3 1 vo (openAt q.K k).length (intsN (openAt q.K k).reverse))∧Hid (wr.ownsMap Tryz.prog 3 (plainElem Tryz.prog 3) w.heap.size k D)∧Hid (mapIs D (Lev.partAt q.K k))∧Hid (Fr [] w wr)) (fun _ a _=>q.n - (intOf a).toNat)
 case atStart=>exact⟨0,_,rfl,Nat.zero_le _,hid (World.ownsRow_nil _ _ _ _),hid (World.ownsMap_made _ _ _ _),hid mapIs_empty,hid ((Fr.refl _ _).alloc _)⟩
 case round =>
  obtain⟨k,D,rfl,hk,HO,HM,HI,HF⟩:=hrel;by_cases hlt:k<q.n
  ·have HUX:=hid (HU.out.fr HF.out List.not_mem_nil)
   have p0:=HUX.out.r k hlt;have p1:=HUX.out.k k hlt;have p2:=HUX.out.c k hlt;have p3:=HUX.out.l k hlt;have hsz:=HF.out.size;have hml:=HM.out.lt;have hol:=open_len q.K k;have HPF:=hid (part_facts q.K k);obtain⟨a1,c1,hv1⟩:=owns_slice HO.out;obtain⟨n,hn'⟩:∃n,n=(openAt q.K k).length:=⟨_,rfl⟩;have HN:=hid hn';rw[←hn']at hv1 hol;subst hv1;have hUw:q.U<wr.heap.size:=by omega
   have HC:=hid (fn82_any (nth q.K k));obtain⟨bx,hbx⟩:∃bx:Obj,bx=.cells #[.int .i32 (nth q.R k),.int .i64 (nth q.K k),.int .i64 (nth C k),.int .i64 (nth L k)] 280:=⟨_,rfl⟩;have HOA:=hid (owns_fr0 (by have:=HO.out;rw[←hn']at this;exact this) ((Fr.refl [] wr).alloc bx));have HMA:=hid (HM.out.alloc bx);have HFA:=hid (HF.out.alloc bx);rw[hbx]at HOA HMA HFA;generalize nth q.R k=r1 at *;generalize nth C k=r3 at *;generalize nth L k=r4 at *;clear hbx hn';cases hini:ini (nth q.K k)
   ·by_cases h22:nth q.K k=22
    ·cases hop:openAt q.K k with
     | nil =>
       obtain⟨e1,e2⟩:=HPF.out.2.2.1 h22 hop;have HE1:=hid e1;have HE2:=hid e2;have hnz:n=0:=by rw[HN.out,hop];rfl
       rw[h22]at HC p1 HOA HMA HFA;rw[hop]at HOA;subst hnz;have HC0:Hid (∀w,Calls Tryz.prog 202 #[.int .i64 22] w fun e w'=>e=.returned (.bool false)∧w'=w):=HC;clear hini h22 hop e1 e2 HPF HC;go_wp2_with (first | (go_at_call 202;refine(HC0.out _).mono ?_;rintro e w' ⟨rfl,rfl⟩));go_roundw
       case rel=>exact⟨k+1,D,by go_num,by omega,hid (by rw[HE1.out];exact HOA.out),hid (HMA.out.mono (by omega)),hid (by rw[HE2.out];exact HI.out),HFA⟩
       case measure=>simp[intOf];omega
     | cons x r =>
       obtain⟨e1,e2⟩:=HPF.out.2.1 x r h22 hop;have HE1:=hid e1;have HE2:=hid e2;have hnr:n=r.length+1:=by rw[HN.out,hop];rfl
       have hxk:=open_lt q.K k x (by rw[hop];exact List.mem_cons_self);rw[h22]at HC p1 HOA HMA HFA;rw[hop,List.reverse_cons]at HOA;obtain⟨go,co,hsh⟩:=owns_shape (by omega) HOA.out;cases hsh;have hcp:=owns_cap' HOA.out;have hgo:=owns_at HOA.out;have f1:∀X:World,X.ownsRow (w.heap.size+1) 3 1 (.slice (some ⟨go,0,none⟩) n c1) n (intsN (r.reverse++[x]))→X.cell? ⟨go,r.length,none⟩=some (.int .i64 (x:Nat)):=fun X hX=>by
        rw[hX.cellAt r.length (by omega),←intsN_snoc,List.getElem?_append_right (by simp[intsN])];simp[intsN]
       have f2:=f1 _ HOA.out;have hl1:(n:Int) - 1=(r.length:Int):=by omega
       have hl2:(r.length:Int)<(n:Int):=by omega
       have hl3:(r.length:Int)≤(c1:Int):=by omega
       have hl4:(0:Int)≤(r.length:Int):=by omega
       have HC0:Hid (∀w,Calls Tryz.prog 202 #[.int .i64 22] w fun e w'=>e=.returned (.bool false)∧w'=w):=HC;obtain⟨lr,hlr⟩:∃lr,lr=r.length:=⟨_,rfl⟩;rw[←hlr]at f2 hl1 hl2 hl3 hl4;have HLR:=hid hlr;have HNR:=hid hnr;clear hini h22 hop e1 e2 HPF HC f1 hlr hnr;go_wp2_with (first | (go_at_call 202;refine(HC0.out _).mono ?_;rintro e w' ⟨rfl,rfl⟩) | (at_mapUpdate;refine wpList_mapUpdate_own _ rfl _ _ _ 258 rfl 3 3 law3 Tryz.underlying258 _ w.heap.size k D rfl HMA.out (by unfold maxLen;omega) _ _ (kN x) rfl rfl (keyOf_int_mk Tryz.underlying3 (WalkArith.wf_i64 (by omega))) (.lit (.int .i64 (k:Nat))) [] (plainElem_int Tryz.underlying3 (WalkArith.wf_i64 (by omega))) ?_));intro w3 hown3 hgrow3;have HM3:=hid hown3;have HO3:=hid (owns_grown HOA.out hgrow3 (fun y hy e=>by cases hy;have h5:go=w.heap.size:=Option.some.inj e;omega));have HF3:=hid (HFA.out.grown hgrow3 (fun y hy=>by cases hy;exact Nat.le_refl _))
       have HO4:=hid (show w3.ownsRow (w.heap.size+1) 3 1 (.slice (some ⟨go,0,none⟩) lr c1) r.length (intsN r.reverse) by
        have h5:=ownsRow_take HO3.out (j:=lr) (by have:=HNR.out;have:=HLR.out;omega)
        rw[intsN_take,List.take_left' (by rw[List.length_reverse];exact HLR.out.symm)]at h5
        rw[←HLR.out];exact h5)
       have HI3:=hid (HI.out.put x k);clear hown3 hgrow3;go_wp2;go_roundw
       case rel=>exact⟨k+1,_,by go_num,by omega,hid (by rw[HE1.out];exact HO4.out),HM3,hid (by rw[HE2.out];exact HI3.out),HF3⟩
       case measure=>simp[intOf];omega
    ·obtain⟨e1,e2⟩:=HPF.out.2.2.2 hini h22
     have HE1:=hid e1;have HE2:=hid e2;rw[hini]at HC;have h22b:(nth q.K k == 22)=false:=by simp[h22]
     generalize nth q.K k=kk at *;clear hini e1 e2 HPF;go_wp2_with (first | (go_at_call 202;refine(HC.out _).mono ?_;rintro e w' ⟨rfl,rfl⟩));go_roundw
     case rel=>exact⟨k+1,D,by go_num,by omega,hid (by rw[HE1.out,←HN.out];exact HOA.out),hid (HMA.out.mono (by omega)),hid (by rw[HE2.out];exact HI.out),HFA⟩
     case measure=>simp[intOf];omega
   ·obtain⟨e1,e2⟩:=HPF.out.1 hini
    have HE1:=hid e1;have HE2:=hid e2;rw[hini]at HC;generalize nth q.K k=kk at *;clear hini e1 e2 HPF;go_wp2_with (first | (go_at_call 202;refine(HC.out _).mono ?_;rintro e w' ⟨rfl,rfl⟩) | (at_builtin;refine wpList_append_own _ rfl _ _ 32 rfl (w.heap.size+1) 3 i0 _ 1 8 Tryz.underlying32 hi hz0 hz1 hz2 rfl (by decide) _ n (intsN (openAt q.K k).reverse) rfl ?own _ 1 1 [.int .i64 k] rfl rfl (news_at _ _ _ _ (by simp)) (one_cell _) (by unfold maxLen;omega) (by omega) ?szz ?_))
    case own=>exact owns_fr0 HOA.out ((Fr.refl [] _).alloc _)
    case szz=>simp;omega
    intro v' w3 own3 hgrow hnil;have HM3:=hid ((HMA.out.alloc (.cells #[.int .i64 k] 3)).kept hgrow (fun e=>by have h5:=(HOA.out.lt _ e.symm).1;omega));have HF3:=hid (Fr.grown (HFA.out.alloc (.cells #[.int .i64 k] 3)) hgrow (fun y hy=>by have h5:=(HOA.out.lt _ hy).1;omega))
    have HO3:=hid (show w3.ownsRow (w.heap.size+1) 3 1 v' (k :: openAt q.K k).length (intsN (k :: openAt q.K k).reverse) by
     rw[List.reverse_cons,←intsN_snoc,List.length_cons,←HN.out];exact own3)
    clear own3 hgrow hnil;go_wp2;go_roundw
    case rel=>exact⟨k+1,D,by go_num,by omega,hid (by rw[HE1.out];exact HO3.out),hid (HM3.out.mono (by omega)),hid (by rw[HE2.out];exact HI.out),HF3⟩
    case measure=>simp[intOf];omega
  ·have hke:k=q.n:=by omega
   have HMZ:=hid (show mapIs D (Lev.partAt q.K q.n) by rw[←hke];exact HI.out);have HMY:=hid (show wr.ownsMap Tryz.prog 3 (plainElem Tryz.prog 3) w.heap.size q.n D by rw[←hke];exact HM.out);have hkI:¬(k:Int)<(q.n:Int):=by omega
   clear hke;go_wp2;go_ret;exact⟨rfl,⟨D,HMY.out,HMZ.out⟩,HF.out⟩
end Go.Proofs.YtnakejhohdbfdacGreatDoor
namespace Go.Proofs.YtnakejhohdbfdacGreatDoor
open Go.RowKit Lev Go.Maps
structure QM (w:World)(q:UH)(P cU mb n:Nat)(lv:Int)(D:DataW Unit):Prop where
 s:QS w q P cU lv
 c1:w.cell? ⟨P,1,none⟩=some (.map (some mb))
 m:w.ownsMap Tryz.prog 3 (plainElem Tryz.prog 3) mb n D
 i:mapIs D (Lev.partAt q.K q.n)
theorem QM.fr {T:List Nat}{w w':World}{q:UH}{P cU mb n:Nat}{lv:Int}{D:DataW Unit}(h:QM w q P cU mb n lv D)(hf:Fr T w w')(hP:P ∉ T)(hm:mb ∉ T):QM w' q P cU mb n lv D:=by
 refine⟨h.s.fr hf hP,hf.cell h.c1 hP,?_,h.i⟩;obtain⟨es,clock,hb,r⟩:=h.m;exact⟨es,clock,(hf.block mb (Array.getElem?_eq_some_iff.1 hb).1 hm).trans hb,r⟩
theorem strong_stop (c:List Int)(i to':Nat)(h:to'≤i):strong c i to'=false:=by
 unfold strong;cases to' - i with
 | zero=>rfl
 | succ f=>rw[strongA,if_pos h]
set_option linter.unusedSimpArgs false in
set_option maxRecDepth 10000 in
set_option maxHeartbeats 4000000 in
theorem fn44_any (q:UH)(C L:List Int)(P cU mb n:Nat)(lv:Int)(D:DataW Unit)(i0 t:Nat)(w:World)(hu:US w q C L)(hq:QM w q P cU mb n lv D)(hK:q.K.length=q.n)(hn:q.n≤1000000)(ht:t≤q.n)(hi0:i0≤1000000) :
 Calls Tryz.prog 164 #[.pointer (some ⟨P,0,none⟩),.int .i64 i0,.int .i64 t] w fun e w'=>e=.returned (.bool (strong q.K i0 t))∧w'=w:=by
 have c0:=hq.s.c0;have c1:=hq.c1;have HU:=hid hu;have HM:=hid hq.m;have HI:=hid hq.i;have HK:=hid hK;obtain⟨R,hR⟩:∃R,R=strong q.K i0 t:=⟨_,rfl⟩;have HR:=hid hR;rw[←hR];clear hu hq hR hK;go_enter Tryz.func164,Tryz.ntmps164;go_wp2;go_loopw [7] (fun a wr=>∃(i:Nat),a=.int .i64 i∧i≤1000001∧Hid (R=strong q.K i t)∧wr=w) (fun a _=>t - (intOf a).toNat)
 case atStart=>exact⟨i0,rfl,by omega,HR,rfl⟩
 case round =>
  obtain⟨i,rfl,hib,HRI,rfl⟩:=hrel;by_cases hlt:i<t
  ·have hiI:(i:Int)<(t:Int):=by omega
   have hin:i<q.n:=by omega
   have hinI:(i:Int)<(q.n:Int):=by omega
   have p1:=HU.out.k i hin;have HST:=hid (HRI.out.trans (strong_from q.K i t hlt));have HC:=hid (fn82_any (nth q.K i));have HPM:=hid (part_mate q.K i (by rw[HK.out];exact hin));rw[HK.out]at HPM;generalize hy:nth q.K i=y at *;by_cases h0:y=0
   ·subst h0
    have HRF:=hid (show R=false by have:=HST.out;simpa using this);go_wp2;go_ret;exact⟨retB HRF.out.symm,rfl⟩
   ·by_cases h1:y=1∨y=2
    ·have HRF:=hid (show R=true by have:=HST.out;rw[if_neg h0,if_pos h1]at this;exact this)
     rcases h1 with rfl | rfl
     all_goals (
      go_wp2
      go_ret
      exact⟨retB HRF.out.symm,rfl⟩)
    ·have y1:¬y=1:=fun h=>h1 (.inl h)
     have y2:¬y=2:=fun h=>h1 (.inr h)
     have y0b:(y == 0)=false:=by simp[h0]
     have y1b:(y == 1)=false:=by simp[y1]
     have y2b:(y == 2)=false:=by simp[y2]
     have HS2:=hid (show R=if ini y then(match mate q.K i with | none=>false | some m=>if t≤m then false else strong q.K (m+1) t)else strong q.K (i+1) t by have:=HST.out;rw[if_neg h0,if_neg h1]at this;exact this);clear HST h1;cases hini:ini y
     ·rw[hini]at HC HS2
      have HS3:=hid (show R=strong q.K (i+1) t from HS2.out);clear hini HS2;go_wp2_with (first | (go_at_call 202;refine(HC.out _).mono ?_;rintro e w' ⟨rfl,rfl⟩));go_roundw
      case rel=>exact⟨i+1,by go_num,by omega,HS3,by first | rfl | trivial⟩
      case measure=>simp[intOf];omega
     ·rw[hini]at HC HS2 HPM
      have HPN:=hid (show Lev.partAt q.K q.n i=mate q.K i from HPM.out);cases hmt:mate q.K i with
      | none =>
        have HRF:=hid (show R=false by have:=HS2.out;rw[hmt]at this;exact this);have hhas:Maps.has D (kN i)=false:=by rw[(HI.out.2 i).1,HPN.out,hmt];rfl
        clear hini HS2 hmt;go_wp2_with (first | (go_at_call 202;refine(HC.out _).mono ?_;rintro e w' ⟨rfl,rfl⟩) | (at_lookup;refine wpList_lookup_own_ok_int _ rfl _ _ 258 rfl 3 3 .i64 law3 Tryz.underlying258 Tryz.underlying3 (zero3 _) mb n D rfl HM.out _ (kN i) rfl (keyOf_int_mk Tryz.underlying3 (WalkArith.wf_i64 (by omega))) ?_;intro c hat hwc;rw[hhas]));go_ret;exact⟨retB HRF.out.symm,rfl⟩
      | some mm =>
        have hmlt:=mate_lt _ _ _ hmt;rw[HK.out]at hmlt;have hmge:=mate_ge _ _ _ hmt;have hhas:Maps.has D (kN i)=true:=by rw[(HI.out.2 i).1,HPN.out,hmt];rfl
        have HAT:=hid ((HI.out.2 i).2 mm (by rw[HPN.out,hmt]))
        have HS3:=hid (show R=strong q.K (mm+1) t by
         have h5:=HS2.out
         rw[hmt]at h5
         dsimp only at h5
         rw[if_pos rfl]at h5
         by_cases htm:t≤mm
         ·rw[if_pos htm]at h5;rw[h5,strong_stop _ _ _ (by omega)]
         ·rw[if_neg htm]at h5;exact h5)
        clear hini HS2 hmt;go_wp2_with (first | (go_at_call 202;refine(HC.out _).mono ?_;rintro e w' ⟨rfl,rfl⟩) | (at_lookup;refine wpList_lookup_own_ok_int _ rfl _ _ 258 rfl 3 3 .i64 law3 Tryz.underlying258 Tryz.underlying3 (zero3 _) mb n D rfl HM.out _ (kN i) rfl (keyOf_int_mk Tryz.underlying3 (WalkArith.wf_i64 (by omega))) ?_;intro c hat hwc;rw[hhas];obtain rfl:c=(mm:Int):=(by have h5:=hat.symm.trans (HAT.out _);simpa using h5);clear hat hwc));go_roundw
        case rel=>exact⟨mm+1,by go_num,by omega,HS3,by first | rfl | trivial⟩
        case measure=>simp[intOf];omega
  ·have HRF:=hid (show R=false by rw[HRI.out];exact strong_stop _ _ _ (by omega))
   have hiI:¬(i:Int)<(t:Int):=by omega
   go_wp2;go_ret;exact⟨retB HRF.out.symm,rfl⟩
set_option linter.unusedSimpArgs false in
set_option maxRecDepth 10000 in
set_option maxHeartbeats 4000000 in
theorem fn50_any (q:UH)(C L:List Int)(P cU mb n:Nat)(lv:Int)(D:DataW Unit)(i:Nat)(w:World)(hu:US w q C L)(hq:QM w q P cU mb n lv D)(hK:q.K.length=q.n)(hn:q.n≤1000000)(hi:i<q.n)(hini:ini (nth q.K i)=true) :
 Calls Tryz.prog 170 #[.pointer (some ⟨P,0,none⟩),.int .i64 i] w fun e w'=>e=.returned (.bool (oddOf q.K i))∧w'=w:=by
 have c0:=hq.s.c0;have c1:=hq.c1;have p1:=hu.k i hi;have HM:=hid hq.m;have HI:=hid hq.i;have HS:=hid (fun t (ht:t≤q.n)=>fn44_any q C L P cU mb n lv D (i+1) t w hu hq hK hn ht (by omega));have HPN:=hid (show Lev.partAt q.K q.n i=mate q.K i by have:=part_mate q.K i (by rw[hK];exact hi);rw[hK,hini]at this;exact this);have hiI:(i:Int)<(q.n:Int):=by omega
 have HO:=hid (show oddOf q.K i=if nth q.K i=21 then strong q.K (i+1) ((mate q.K i).getD q.n)else(nth q.K i == 16 || nth q.K i == 17 || nth q.K i == 20) by rw[←hK];rfl);have HK:=hid hK;generalize oddOf q.K i=R at *;generalize hy:nth q.K i=y at *;have hc:y=19∨y=20∨y=21:=by unfold ini at hini;simp at hini;omega
 clear hu hq hini hK hy
 rcases hc with rfl | rfl | rfl
 ·have HR:=hid (show R=false from HO.out)
  go_enter Tryz.func170,Tryz.ntmps170;go_wp2;go_ret;exact⟨retB HR.out.symm,rfl⟩
 ·have HR:=hid (show R=true from HO.out)
  go_enter Tryz.func170,Tryz.ntmps170;go_wp2;go_ret;exact⟨retB HR.out.symm,rfl⟩
 ·have HR:=hid (show R=strong q.K (i+1) ((mate q.K i).getD q.n)from HO.out)
  cases hmt:mate q.K i with
  | none =>
    rw[hmt]at HR;have hhas:Maps.has D (kN i)=false:=by rw[(HI.out.2 i).1,HPN.out,hmt];rfl
    have HS1:Hid (Calls Tryz.prog 164 #[.pointer (some ⟨P,0,none⟩),.int .i64 ((i:Int)+1),.int .i64 q.n] w fun e w'=>e=.returned (.bool R)∧w'=w):=hid (by have h5:=HS.out q.n (Nat.le_refl _);rw[Int.natCast_add]at h5;rw[HR.out];exact h5);clear hmt HS;go_enter Tryz.func170,Tryz.ntmps170;go_wp2_with (first | (go_at_call 164;refine HS1.out.mono ?_;rintro e w' ⟨rfl,rfl⟩) | (at_lookup;refine wpList_lookup_own_ok_int _ rfl _ _ 258 rfl 3 3 .i64 law3 Tryz.underlying258 Tryz.underlying3 (zero3 _) mb n D rfl HM.out _ (kN i) rfl (keyOf_int_mk Tryz.underlying3 (WalkArith.wf_i64 (by omega))) ?_;intro c hat hwc;rw[hhas];clear hat hwc));go_ret;exact⟨rfl,rfl⟩
  | some mm =>
    rw[hmt]at HR;have hmlt:=mate_lt _ _ _ hmt;rw[HK.out]at hmlt;have hhas:Maps.has D (kN i)=true:=by rw[(HI.out.2 i).1,HPN.out,hmt];rfl
    have HAT:=hid ((HI.out.2 i).2 mm (by rw[HPN.out,hmt]));have HS1:Hid (Calls Tryz.prog 164 #[.pointer (some ⟨P,0,none⟩),.int .i64 ((i:Int)+1),.int .i64 mm] w fun e w'=>e=.returned (.bool R)∧w'=w):=hid (by have h5:=HS.out mm (by omega);rw[Int.natCast_add]at h5;rw[HR.out];exact h5);clear hmt HS;go_enter Tryz.func170,Tryz.ntmps170;go_wp2_with (first | (go_at_call 164;refine HS1.out.mono ?_;rintro e w' ⟨rfl,rfl⟩) | (at_lookup;refine wpList_lookup_own_ok_int _ rfl _ _ 258 rfl 3 3 .i64 law3 Tryz.underlying258 Tryz.underlying3 (zero3 _) mb n D rfl HM.out _ (kN i) rfl (keyOf_int_mk Tryz.underlying3 (WalkArith.wf_i64 (by omega))) ?_;intro c hat hwc;rw[hhas];obtain rfl:c=(mm:Int):=(by have h5:=hat.symm.trans (HAT.out _);simpa using h5);clear hat hwc));go_ret;exact⟨rfl,rfl⟩
set_option linter.unusedSimpArgs false in
set_option maxRecDepth 10000 in
set_option maxHeartbeats 4000000 in
theorem fn21_any (q:UH)(C L:List Int)(P cU mb n:Nat)(lv:Int)(D:DataW Unit)(b:Int)(w:World)(hu:US w q C L)(hq:QM w q P cU mb n lv D)(hK:q.K.length=q.n)(hn:q.n≤1000000)(hb:b=0∨b=1∨b=2) :
 Calls Tryz.prog 136 #[.pointer (some ⟨P,0,none⟩),.int .i64 b] w fun e w'=>e=.returned (.int .i64 (baseOf q.K b))∧w'=w:=by
 have c0:=hq.s.c0;have HS:=hid (fn44_any q C L P cU mb n lv D 0 q.n w hu hq hK hn (Nat.le_refl _) (Nat.zero_le _));have HB:=hid (fun b w=>fn45_any b w);have HR:=hid (show baseOf q.K b=if b=2 then(if strong q.K 0 q.n then 1 else 0)else b by rw[←hK];rfl);generalize baseOf q.K b=R at *;generalize strong q.K 0 q.n=sg at *;clear hu hq hK
 rcases hb with rfl | rfl | rfl
 ·have HR2:=hid (show R=0 from HR.out)
  go_enter Tryz.func136,Tryz.ntmps136;go_wp2_with (first | (go_at_call 165;refine(HB.out _ _).mono ?_;rintro e w' ⟨rfl,rfl⟩));go_ret;exact⟨retI HR2.out.symm,rfl⟩
 ·have HR2:=hid (show R=1 from HR.out)
  go_enter Tryz.func136,Tryz.ntmps136;go_wp2_with (first | (go_at_call 165;refine(HB.out _ _).mono ?_;rintro e w' ⟨rfl,rfl⟩));go_ret;exact⟨retI HR2.out.symm,rfl⟩
 ·have HR2:=hid (show R=if sg then 1 else 0 from HR.out)
  cases sg
  all_goals (
   go_enter Tryz.func136,Tryz.ntmps136
   go_wp2_with (first | (go_at_call 164;refine HS.out.mono ?_;rintro e w' ⟨rfl,rfl⟩) | (go_at_call 165;refine(HB.out _ _).mono ?_;rintro e w' ⟨rfl,rfl⟩))
   go_ret
   exact⟨retI HR2.out.symm,rfl⟩)
end Go.Proofs.YtnakejhohdbfdacGreatDoor

import Derived.Test.YtnakejhohdbfdacGreatDoorKMd
import Derived.Test.YtnakejhohdbfdacGreatDoorKMa
import Derived.Test.YtnakejhohdbfdacGreatDoorKSearchK
import Derived.Test.YtnakejhohdbfdacGreatDoorKLdG
import Derived.Test.YtnakejhohdbfdacGreatDoorKRefBnd
import Derived.WalkLawsBesides
import Derived.Test.YtnakejhohdbfdacGreatDoorKPvA
namespace Go.Proofs.YtnakejhohdbfdacGreatDoor.Lay
open Go Dec Bnd Lev
theorem up_bound (l c:Int):0≤up l c∧up l c≤2:=by unfold up;repeat(first | omega | split)
theorem raise_bound (K C:List Int)(base:Int)(hb:0≤base∧base≤1)(L:List Int)(hL:∀i,0≤nth L i∧nth L i≤9):∀k,(0≤(raiseTo K C base k L).1∧(raiseTo K C base k L).1≤11)∧(∀i,0≤nth (raiseTo K C base k L).2 i∧nth (raiseTo K C base k L).2 i≤11)∧∀i,k≤i→nth (raiseTo K C base k L).2 i≤9
 | 0=>by
   refine⟨by simp only[raiseTo];omega,fun i=>?_,fun i _=>(hL i).2⟩;have:=hL i;simp only[raiseTo];omega
 | k+1=>by
   obtain⟨h1,h2,h3⟩:=raise_bound K C base hb L hL k;have hset:∀(M:List Int) (v:Int) (i:Nat),(0≤v∧v≤11)→(0≤nth M i∧nth M i≤11)→(0≤nth (M.set k v) i∧nth (M.set k v) i≤11)∧(k+1≤i→nth (M.set k v) i=nth M i):=by
    intro M v i hv hm;by_cases e:k=i
    ·subst e
     refine⟨?_,fun h=>by omega⟩;by_cases hl:k<M.length
     ·rw[nth,List.getElem?_set_self hl];exact hv
     ·rw[nth,List.getElem?_eq_none (by rw[List.length_set];omega)];decide
    ·rw[nth,List.getElem?_set_ne e];exact⟨hm,fun _=>rfl⟩
   rw[raiseTo]
   try dsimp only
   split
   ·exact⟨h1,fun i=>(hset _ _ i h1 (h2 i)).1,fun i hi=>by rw[(hset _ _ i h1 (h2 i)).2 hi];exact h3 i (by omega)⟩
   ·have hu:=up_bound (nth (raiseTo K C base k L).2 k) (nth C k)
    have hk:=h3 k (Nat.le_refl _);have hk0:=(h2 k).1;have hv:0≤nth (raiseTo K C base k L).2 k+up (nth (raiseTo K C base k L).2 k) (nth C k)∧nth (raiseTo K C base k L).2 k+up (nth (raiseTo K C base k L).2 k) (nth C k)≤11:=by omega
    exact⟨hv,fun i=>(hset _ _ i hv (h2 i)).1,fun i hi=>by rw[(hset _ _ i hv (h2 i)).2 hi];exact h3 i (by omega)⟩
theorem lev_bound (R K:List Int)(base:Int)(hb:base=0∨base=1)(i:Nat):0≤nth (levels R K base) i∧nth (levels R K base) i≤11 :=
 (raise_bound K _ base (by omega) _ (emb_inv K base hb K.length (Nat.le_refl _)).small K.length).2.1 i
theorem elv_bound (R K:List Int)(base:Int)(hb:base=0∨base=1)(ed:Nat→Bool)(i:Nat):0≤elv K (levels R K base) base ed i∧elv K (levels R K base) base ed i≤11:=by
 have:=lev_bound R K base hb i;unfold elv;split <;> omega
def cidx (B:List Int)(x:Int):Nat:=B.countP (fun y=>decide (y<x))
def ei (B:List Int)(c:Nat)(Br:List Int)(k:Nat):Nat:=if k=0 then 0 else if k≤Br.length then cidx B (nth Br (k - 1))else c
def edg (I:List Nat)(B:List Int)(Br:List Int)(j:Nat):Bool:=(List.range (Br.length+2)).any fun k=>decide (nix I (ei B (I.length - 1) Br k)=j)
theorem cidx_at {B:List Int}{z:Int}(hr:Rises B z){x:Int}(hc:B.contains x=true):cidx B x<B.length∧B.getD (cidx B x) 0=x:=by
 obtain⟨k,hk⟩:=cut_exists x B hr.sorted;rw[cidx,cut_count hk];exact(contains_iff hr.sorted hk).1 hc
theorem nth_getD (l:List Int)(i:Nat):nth l i=l.getD i 0:=by rw[nth,List.getD]
theorem bnd_nth {s:ByteArray}{n:Nat}(h:Dec.Ends s n){k:Nat}(hk:k<(bix s n).length):nth (bnd s n) k=((pos s (nix (bix s n) k):Nat):Int):=by
 rw[bnd_bix h,nth,nix,List.getElem?_map,List.getElem?_eq_getElem hk];rfl
theorem bnd_length {s:ByteArray}{n:Nat}(h:Dec.Ends s n):(bnd s n).length=(bix s n).length:=by rw[bnd_bix h,List.length_map]
structure Edges (s:ByteArray)(n:Nat)(Br:List Int):Prop where
 e0:ei (bnd s n) (cn s n) Br 0=0
 eN:ei (bnd s n) (cn s n) Br (Br.length+1)=cn s n
 mono:∀i j,i<j→j≤Br.length+1→ei (bnd s n) (cn s n) Br i<ei (bnd s n) (cn s n) Br j
 le:∀k,k≤Br.length+1→ei (bnd s n) (cn s n) Br k≤cn s n
 at_:∀k,k<Br.length→((pos s (nix (bix s n) (ei (bnd s n) (cn s n) Br (k+1))):Nat):Int)=nth Br k
theorem edges_ok {s:ByteArray}{n:Nat}(h:Dec.Ends s n)(hn:0<n)(Br:List Int)(hB:brTo (bnd s n) s.size Br Br.length=true):Edges s n Br:=by
 have hr:=rises_bnd h;have hlen:=bnd_length h;have hl2:=bix_len s n;have hc:∀k,k<Br.length→cidx (bnd s n) (nth Br k)<(bix s n).length∧((pos s (nix (bix s n) (cidx (bnd s n) (nth Br k))):Nat):Int)=nth Br k:=fun k hk=>by
  obtain⟨a1,a2⟩:=cidx_at hr (brTo_at hB k hk).2.2;rw[hlen]at a1;refine⟨a1,?_⟩;rw[←bnd_nth h a1,nth_getD];exact a2
 have step:∀k,k≤Br.length→ei (bnd s n) (cn s n) Br k<ei (bnd s n) (cn s n) Br (k+1):=by
  intro k hk;have key:∀a b,a<(bix s n).length→b<(bix s n).length→((pos s (nix (bix s n) a):Nat):Int)<((pos s (nix (bix s n) b):Nat):Int)→a<b:=by
   intro a b ha hb hlt
   rcases Nat.lt_trichotomy a b with h1 | h1 | h1
   ·exact h1
   ·subst h1;omega
   ·have:=pos_mono s _ _ (nix_lt (bix_sorted s n) h1 ha);omega
  have hcl:cn s n<(bix s n).length:=by rw[cn];omega
  have hend:((pos s (nix (bix s n) (cn s n)):Nat):Int)=((s.size:Nat):Int):=by rw[bix_last,h.1]
  have h0:((pos s (nix (bix s n) 0):Nat):Int)=0:=by rw[bix_zero];rfl
  have hs0:(0:Int)<((s.size:Nat):Int):=by have:=h.2 0 hn;omega
  by_cases hk0:k=0
  ·subst hk0
   have e1:ei (bnd s n) (cn s n) Br 0=0:=rfl;rw[e1];by_cases hb:0<Br.length
   ·have e2:ei (bnd s n) (cn s n) Br (0+1)=cidx (bnd s n) (nth Br 0):=by rw[ei,if_neg (by omega),if_pos (by omega)]
    rw[e2];have h1:=brTo_at hB 0 hb;rw[if_pos rfl]at h1;exact key _ _ (by omega) (hc 0 hb).1 (by rw[h0,(hc 0 hb).2];exact h1.1)
   ·have e2:ei (bnd s n) (cn s n) Br (0+1)=cn s n:=by rw[ei,if_neg (by omega),if_neg (by omega)]
    rw[e2];exact key _ _ (by omega) hcl (by rw[h0,hend];exact hs0)
  ·have e1:ei (bnd s n) (cn s n) Br k=cidx (bnd s n) (nth Br (k - 1)):=by rw[ei,if_neg hk0,if_pos hk]
   rw[e1];have h1:=hc (k - 1) (by omega);by_cases hb:k<Br.length
   ·have e2:ei (bnd s n) (cn s n) Br (k+1)=cidx (bnd s n) (nth Br k):=by rw[ei,if_neg (by omega),if_pos (by omega),Nat.add_sub_cancel]
    rw[e2];have h2:=brTo_at hB k hb;rw[if_neg hk0]at h2;exact key _ _ h1.1 (hc k hb).1 (by rw[h1.2,(hc k hb).2];exact h2.1)
   ·have e2:ei (bnd s n) (cn s n) Br (k+1)=cn s n:=by rw[ei,if_neg (by omega),if_neg (by omega)]
    rw[e2];have h2:=(brTo_at hB (k - 1) (by omega)).2.1;exact key _ _ h1.1 hcl (by rw[h1.2,hend];exact h2)
 have mono:∀d i,i+d+1≤Br.length+1→ei (bnd s n) (cn s n) Br i<ei (bnd s n) (cn s n) Br (i+d+1):=by
  intro d
  induction d with
  | zero=>intro i hi;exact step i (by omega)
  | succ d ih=>intro i hi;exact Nat.lt_trans (ih i (by omega)) (step (i+d+1) (by omega))
 have eN:ei (bnd s n) (cn s n) Br (Br.length+1)=cn s n:=by rw[ei,if_neg (by omega),if_neg (by omega)]
 have mono':∀i j,i<j→j≤Br.length+1→ei (bnd s n) (cn s n) Br i<ei (bnd s n) (cn s n) Br j:=fun i j hij hj=>by
  have:=mono (j - i - 1) i (by omega)
  rwa [show i+(j - i - 1)+1=j by omega]at this
 refine⟨rfl,eN,mono',fun k hk=>?_,fun k hk=>?_⟩
 ·rcases Nat.lt_or_eq_of_le hk with h1 | h1
  ·have:=mono' k (Br.length+1) h1 (Nat.le_refl _);rw[eN]at this;omega
  ·rw[h1,eN];exact Nat.le_refl _
 ·rw[ei,if_neg (by omega),if_pos (by omega),Nat.add_sub_cancel];exact(hc k hk).2
end Go.Proofs.YtnakejhohdbfdacGreatDoor.Lay
namespace Go.Proofs.YtnakejhohdbfdacGreatDoor.Cls
open Go.RowKit Dec Kin Bnd
theorem search35 (l:List Int)(z:Int)(hr:Rises l z)(x:Int)(k g cap:Nat)(w:World)(hc:Cut l x k)(hl:l.length≤1000002)(hcell:∀j,j<l.length→w.cell? ⟨g,j,none⟩=some (.int .i64 (l.getD j 0))) :
 Calls Tryz.prog 78 #[.slice (some ⟨g,0,none⟩) l.length cap,.int .i64 x] w fun e w'=>e=.returned (.tuple #[.int .i64 (k:Nat),.bool (l.contains x)])∧∃q,w'=w.drewN q:=by
 have h:=Any.slices_BinarySearch_int Tryz.laysNm225 g 0 l.length cap l x w (Nat.le_refl _) (by omega) (fun j hj=>by rw[Nat.zero_add];exact hcell j hj)
  (by rw[List.take_length];exact hr.sorted.imp fun h=>Int.le_of_lt h)
 rw[List.take_length]at h;have e:l.countP (fun y=>decide (y<x))=k:=cut_count hc;rw[e]at h;exact h
set_option maxRecDepth 10000 in
set_option maxHeartbeats 2000000 in
theorem fn35_any (l:List Int)(z:Int)(hr:Rises l z)(off:Int)(up:Bool)(k g cap:Nat)(w:World)(hz:0≤z)(hc:Cut l (min (max off 0) z) k)(hl:l.length≤1000002)(hcell:∀j,j<l.length→w.cell? ⟨g,j,none⟩=some (.int .i64 (l.getD j 0))) :
 Calls Tryz.prog 40 #[.slice (some ⟨g,0,none⟩) l.length cap,.int .i64 off,.bool up] w fun e w'=>e=.returned (.int .i64 (snapL l (min (max off 0) z) up k))∧∃q,w'=w.drewN q:=by
 have HR:=hide hr;have HCUT:=hide hc;have hk:=hr.cut_lt hc (by omega);have hx0:0≤min (max off 0) z:=by omega
 have HX0:=hide hx0;have HCELL:=hide hcell;have hkI:(k:Int)<(l.length:Int):=by omega
 obtain⟨d,hd⟩:∃d,l.length=d+1:=⟨l.length - 1,by omega⟩;have hzc:w.cell? ⟨g,d,none⟩=some (.int .i64 z):=by
  rw[hcell d (by omega),List.getD,show d=l.length - 1 by omega,hr.last];rfl
 have hdI:(l.length:Int) - 1=(d:Int):=by omega
 have hdlt:(d:Int)<(l.length:Int):=by omega
 generalize hsn:snapL l (min (max off 0) z) up k=sn;have HSN:=hide hsn;clear hr hc hcell hx0 hsn hd;go_enter Tryz.func40,Tryz.ntmps40;go_wp2_with fail;refine(search35 l _ HR.out _ k g cap w HCUT.out (by omega) HCELL.out).mono ?_;rintro e w2 ⟨rfl,q,rfl⟩;clear hzc hdI hdlt;cases hct:l.contains (min (max off 0) z)
 ·have hk0:=HR.out.cut_pos HCUT.out HX0.out hct
  cases up
  ·have E:l.getD (k - 1) 0=sn:=by rw[←HSN.out];unfold snapL;rw[hct];rfl
   obtain⟨r,hr⟩:∃r,k=r+1:=⟨k - 1,by omega⟩;subst hr;have c:=HCELL.out r (by omega);rw[show r+1 - 1=r by omega]at E;rw[E]at c;have hri:(r:Int)<(l.length:Int):=by omega
   clear E hct hkI;go_wp2;go_ret;exact⟨rfl,q,rfl⟩
  ·have E:l.getD k 0=sn:=snap_up.symm.trans HSN.out
   have c:=HCELL.out k hk;rw[E]at c;clear E hct;go_wp2;go_ret;exact⟨rfl,q,rfl⟩
 ·have E:l.getD k 0=sn:=by rw[←HSN.out];unfold snapL;rw[hct];rfl
  have c:=HCELL.out k hk;rw[E]at c;clear E hct;go_wp2;go_ret;exact⟨rfl,q,rfl⟩
end Go.Proofs.YtnakejhohdbfdacGreatDoor.Cls
namespace Go.Proofs.YtnakejhohdbfdacGreatDoor
open Go.RowKit Lev Lay Bnd
theorem rises_mem {l:List Int}{z x:Int}(h:Rises l z)(hx:l.contains x=true):0≤x∧x≤z:=by
 obtain⟨a1,a2⟩:=cidx_at h hx;have h0:=h.len;constructor
 ·rcases Nat.eq_zero_or_pos (cidx l x)with e | e
  ·rw[e,h.head0]at a2;omega
  ·have:=sorted_lt h.sorted e a1;rw[h.head0,a2]at this;omega
 ·rcases Nat.lt_or_eq_of_le (show cidx l x≤l.length - 1 by omega)with e | e
  ·have h1:=sorted_lt h.sorted e (by omega)
   have h2:l.getD (l.length - 1) 0=z:=by rw[List.getD,h.last];rfl
   rw[a2,h2]at h1;omega
  ·rw[e,List.getD,h.last]at a2;simp at a2;omega
theorem search_l (l:List Int)(z:Int)(hr:Rises l z)(x:Int)(g cap:Nat)(w:World)(hl:l.length≤1000002)(hrow:rowAt w g l.length l) :
 Calls Tryz.prog 78 #[.slice (some ⟨g,0,none⟩) l.length cap,.int .i64 x] w fun e w'=>e=.returned (.tuple #[.int .i64 (cidx l x:Nat),.bool (l.contains x)])∧∃q,w'=w.drewN q:=by
 obtain⟨k,hk⟩:=cut_exists x l hr.sorted;have h:=Cls.search35 l z hr x k g cap w hk hl (fun j hj=>by rw[hrow j hj,nth_getD]);rw[show cidx l x=k from cut_count hk];exact h
theorem brTo_step (B:List Int)(z:Int)(hr:Rises B z)(Br:List Int)(k:Nat)(h:Lay.brTo B z Br k=true):Lay.brTo B z Br (k+1)=(B.contains (nth Br k) && (!(nth Br k == 0) && (!(nth Br k == z) && decide ((if k=0 then 0 else nth Br (k - 1))<nth Br k))))∧0≤(if k=0 then 0 else nth Br (k - 1)):=by
 have h0:0≤(if k=0 then 0 else nth Br (k - 1)):=by
  split
  ·omega
  ·rename_i hk
   exact(rises_mem hr (brTo_at h (k - 1) (by omega)).2.2).1
 refine⟨?_,h0⟩;rw[Lay.brTo,h,Bool.true_and];cases hc:B.contains (nth Br k)
 ·simp
 ·have hm:=rises_mem hr hc
  generalize (if k=0 then 0 else nth Br (k - 1))=last at *;generalize nth Br k=x at *;by_cases h1:last<x
  ·by_cases h2:x<z
   ·have h3:¬x=0:=by omega
    have h4:¬x=z:=by omega
    simp[h1,h2,h3,h4]
   ·have h4:x=z:=by omega
    simp[h4]
  ·simp[h1]
set_option maxRecDepth 10000 in
set_option maxHeartbeats 4000000 in
theorem ckB_any (B:List Int)(z:Int)(hr:Rises B z)(hz:0≤z∧z≤1000000)(Br:List Int)(v:Value)(gB cB:Nat)(w:World)(hl:B.length≤1000)(hrow:rowAt w gB B.length B)(hv:slAt w v Br)(hBl:Br.length≤5000)(h7:errAt w 6)(h8:errAt w 7) :
 Calls Tryz.prog 108 #[.slice (some ⟨gB,0,none⟩) B.length cB,v] w fun e w'=>∃x,e=.returned x∧((∃t u,x=.iface t u∧Lay.brTo B z Br Br.length=false)∨(x=.nilIface∧Lay.brTo B z Br Br.length=true))∧Fr [] w w':=by
 obtain⟨a,c,rfl,hBr⟩:=hv;obtain⟨t7,v7,c7⟩:=h7;obtain⟨t8,v8,c8⟩:=h8;have HBr:=hid hBr;have HS:=hid (fun x (w':World) (hf:Fr [] w w')=>search_l B z hr x gB cB w' (by omega) (hrow.fr hf List.not_mem_nil));have hB0:=hr.len;have e0:=hrow (B.length - 1) (by omega);rw[nth_getD,show B.getD (B.length - 1) 0=z by rw[List.getD,hr.last];rfl]at e0;have HST:=hid (fun k h=>brTo_step B z hr Br k h);have HMO:=hid (fun k (hk:k≤Br.length) h=>brTo_mono (B:=B) (z:=z) (Br:=Br) (k:=k) (j:=Br.length) hk h);obtain⟨nb,hnb⟩:∃nb,nb=B.length:=⟨_,rfl⟩;obtain⟨m,hm⟩:∃m,m=Br.length:=⟨_,rfl⟩;rw[←hnb]at hl HS hB0 e0 ⊢;rw[←hm]at hBl HBr HMO ⊢;obtain⟨hz0,hz1⟩:=hz;have HRR:=hid (show Lay.brTo B z Br m=Lay.brTo B z Br m from rfl);obtain⟨ok,hok⟩:∃ok,ok=Lay.brTo B z Br m:=⟨_,rfl⟩;rw[←hok]at HMO ⊢;have HOK:=hid hok;have hwr:IntKind.i64.wrap ((nb:Int) - 1)=((nb - 1:Nat):Int):=by rw[IntKind.wrap_i64];omega
 have hnbI:(nb:Int) - 1=((nb - 1:Nat):Int):=by omega
 have hnbL:((nb - 1:Nat):Int)<(nb:Int):=by omega
 clear hBr hrow hr hnb hm hok HRR;go_enter Tryz.func108,Tryz.ntmps108;go_wp2_with fail;go_quiet (fail);have HF0:=hid ((Fr.refl [] w).drewN nq);have f7:=HF0.out.cell c7 List.not_mem_nil;have f8:=HF0.out.cell c8 List.not_mem_nil;obtain⟨w0,hw0⟩:∃w0,w0=w.drewN nq:=⟨_,rfl⟩;rw[←hw0]at HF0 f7 f8 ⊢;clear hw0 e0 hwr hnbI;go_wp2_with fail;go_loopw [5,19] (fun aa kk wr=>∃k:Nat,kk=.int .i64 k∧k≤m∧aa=.int .i64 (if k=0 then 0 else nth Br (k - 1))∧Hid (Lay.brTo B z Br k=true)∧Hid (Fr [] w wr)) (fun _ kk _=>m - (intOf kk).toNat)
 case atStart=>exact⟨0,rfl,Nat.zero_le _,rfl,hid rfl,HF0⟩
 case round =>
  obtain⟨k,rfl,hkm,rfl,HBT,HFk⟩:=hrel;have g7:=HFk.out.cell c7 List.not_mem_nil;have g8:=HFk.out.cell c8 List.not_mem_nil;by_cases hkl:k<m
  ·have hkI:(k:Int)<(m:Int):=by omega
   obtain⟨g,o,ha,hrw⟩:=HBr.out.resolve_left (by omega);have d0:=HFk.out.cell (hrw k hkl) List.not_mem_nil;subst ha;obtain⟨st,h0⟩:=HST.out k HBT.out;have HNX:=hid (show(if k+1=0 then 0 else nth Br (k+1 - 1))=nth Br k by rw[if_neg (by omega),Nat.add_sub_cancel]);have HM:=hid (HMO.out (k+1) hkl);have HSS:=hid (HS.out (nth Br k) wr HFk.out);have HST2:=hid st;generalize nth Br k=x at *;generalize (if k=0 then 0 else nth Br (k - 1))=last at *;generalize B.contains x=con at *;generalize cidx B x=ci at *;clear st hrw;cases con
   ·have HF:=hid (HM.out (by rw[HST2.out];rfl))
    go_wp2_with (go_at_call 78;refine HSS.out.mono ?_;rintro e w' ⟨rfl,mm,rfl⟩;have HFd:=hid (HFk.out.drewN mm);have i7:=HFd.out.cell c7 List.not_mem_nil);go_ret;exact⟨_,rfl,.inl ⟨_,_,rfl,HF.out⟩,HFd.out⟩
   ·by_cases hx0:x=0
    ·have HF:=hid (HM.out (by rw[HST2.out,hx0];rfl))
     subst hx0;go_wp2_with (go_at_call 78;refine HSS.out.mono ?_;rintro e w' ⟨rfl,mm,rfl⟩;have HFd:=hid (HFk.out.drewN mm);have i7:=HFd.out.cell c7 List.not_mem_nil);go_ret;exact⟨_,rfl,.inl ⟨_,_,rfl,HF.out⟩,HFd.out⟩
    ·have hx0':(x == 0)=false:=by simp[hx0]
     by_cases hxz:x=z
     ·have HF:=hid (HM.out (by rw[HST2.out,hxz];simp))
      subst hxz;go_wp2_with (go_at_call 78;refine HSS.out.mono ?_;rintro e w' ⟨rfl,mm,rfl⟩;have HFd:=hid (HFk.out.drewN mm);have i7:=HFd.out.cell c7 List.not_mem_nil);go_ret;exact⟨_,rfl,.inl ⟨_,_,rfl,HF.out⟩,HFd.out⟩
     ·have hxz':(x == z)=false:=by simp[hxz]
      by_cases hxl:x≤last
      ·have HF:=hid (HM.out (by rw[HST2.out,decide_eq_false (show ¬last<x by omega)];simp))
       go_wp2_with (go_at_call 78;refine HSS.out.mono ?_;rintro e w' ⟨rfl,mm,rfl⟩;have HFd:=hid (HFk.out.drewN mm);have i8:=HFd.out.cell c8 List.not_mem_nil);go_ret;exact⟨_,rfl,.inl ⟨_,_,rfl,HF.out⟩,HFd.out⟩
      ·have HT2:=hid (show Lay.brTo B z Br (k+1)=true by rw[HST2.out,hx0',hxz',decide_eq_true (by omega)];rfl)
       go_wp2_with (go_at_call 78;refine HSS.out.mono ?_;rintro e w' ⟨rfl,mm,rfl⟩;have HFd:=hid (HFk.out.drewN mm));go_roundw
       case rel=>exact⟨k+1,by go_num,by omega,by rw[HNX.out],HT2,HFd⟩
       case measure=>simp[intOf];omega
  ·obtain rfl:k=m:=by omega
   generalize (if k=0 then 0 else nth Br (k - 1))=last;go_wp2;go_ret;exact⟨_,rfl,.inr ⟨rfl,by rw[HOK.out];exact HBT.out⟩,HFk.out⟩
theorem at_any (B:List Int)(z:Int)(hr:Rises B z)(x:Int)(gB cB nB:Nat)(v1 v2:Value)(w:World)(hn:nB=B.length)(hl:nB≤1000)(hB:rowAt w gB nB B) :
 Calls Tryz.prog 100 #[.agg #[.slice (some ⟨gB,0,none⟩) nB cB,v1,v2],.int .i64 x] w fun e w'=>e=.returned (.int .i64 (cidx B x:Nat))∧Fr [] w w':=by
 have HS:=hid (fun(X:World) (hf:Fr [] w X)=>search_l B z hr x gB cB X (by omega) (by rw[←hn];exact hB.fr hf List.not_mem_nil));rw[←hn]at HS;obtain⟨b,hb⟩:∃b,b=B.contains x:=⟨_,rfl⟩;rw[←hb]at HS;obtain⟨k,hk⟩:∃k,k=cidx B x:=⟨_,rfl⟩;rw[←hk]at HS ⊢;clear hb hk hB hn;go_enter Tryz.func100,Tryz.ntmps100;go_wp2_with (first | (go_at_call 78;refine(HS.out _ ((Fr.refl [] w).alloc _)).mono ?_;rintro e w1 ⟨rfl,q,rfl⟩));go_ret;exact⟨rfl,((Fr.refl [] w).alloc _).trans (fr_drewN _ _)⟩
def lnP (B V Wd E:List Int)(j:Nat):Ln :=
 let a:=cidx B (nth E j)
 let b:=cidx B (nth E (j+1))
 let o:=(ordD (fun t=>nth V (a+t)) (b - a)).map (fun t=>t+a)
 ⟨nth E j,nth E (j+1),o,xs (fun k=>nth Wd k) o (b - a)⟩
def lnsP (B V Wd E:List Int)(k:Nat):List Ln:=(List.range k).map (lnP B V Wd E)
theorem lnsP_snoc (B V Wd E:List Int)(k:Nat):lnsP B V Wd E (k+1)=lnsP B V Wd E k++[lnP B V Wd E k]:=by
 rw[lnsP,List.range_succ,List.map_append];rfl
theorem lnsP_len (B V Wd E:List Int)(k:Nat):(lnsP B V Wd E k).length=k:=by simp[lnsP]
theorem vis_ab (V:List Int)(gV nV cV a b:Nat)(v0 v2:Value)(w:World)(hn:nV≤1000)(hab:a≤b)(hbn:b≤nV)(hV:rowAt w gV nV V)(hb:∀i,0≤nth V i∧nth V i≤1000) :
 Calls Tryz.prog 147 #[.agg #[v0,.slice (some ⟨gV,0,none⟩) nV cV,v2],.int .i64 (a:Nat),.int .i64 (b:Nat)] w fun e w'=>∃go,e=.returned (.slice (some ⟨go,0,none⟩) (b - a) (b - a))∧w'.ownsRow w.heap.size 3 1 (.slice (some ⟨go,0,none⟩) (b - a) (b - a)) (b - a) (intsN ((ordD (fun t=>nth V (a+t)) (b - a)).map (fun t=>t+a)))∧Fr [] w w':=by
 have h:=vis_any V gV nV cV a (b - a) v0 v2 w hn (by omega) hV hb;rw[show a+(b - a)=b by omega]at h;exact h
theorem lnsAt.snoc {w w':World}{Bs U U' n:Nat}{hs:List Value}{Ls:List Ln}{l:Ln}{vO vX:Value}(h:lnsAt w Bs U hs Ls)(hn:n=Ls.length)(hl:hs.length=n * 4)(hU:U≤U')(hf:∀e v m xs,(e=3∨e=2)→(∀g,v.ownBlock=some g→g<U)→w.ownsRow Bs e 1 v m xs→w'.ownsRow Bs e 1 v m xs)
 (hO:w'.ownsRow Bs 3 1 vO l.o.length (intsN l.o)) (hX:w'.ownsRow Bs 2 1 vX l.x.length (ints64 l.x)) (hgO:∀g,vO.ownBlock=some g→g<U') (hgX:∀g,vX.ownBlock=some g→g<U'):lnsAt w' Bs U' (hs++[.int .i64 l.f,.int .i64 l.t,vO,vX]) (Ls++[l]):=by
 intro j x hj
 rcases Nat.lt_trichotomy j n with hlt | heq | hgt
 ·rw[List.getElem?_append_left (by omega)]at hj
  obtain⟨a,b,h1,h2,h3,h4,h5⟩:=((h.fr hf).mono hU) j x hj;refine⟨a,b,?_,?_,?_,?_,h5⟩
  ·rw[List.getElem?_append_left (by omega)];exact h1
  ·rw[List.getElem?_append_left (by omega)];exact h2
  ·rw[List.getElem?_append_left (by omega)];exact h3
  ·rw[List.getElem?_append_left (by omega)];exact h4
 ·subst heq
  rw[hn,List.getElem?_append_right (Nat.le_refl _),Nat.sub_self]at hj;obtain rfl:l=x:=Option.some.inj hj;refine⟨vO,vX,?_,?_,?_,?_,hO,hX,hgO,hgX⟩
  ·rw[List.getElem?_append_right (by omega),show j * 4 - hs.length=0 by omega];rfl
  ·rw[List.getElem?_append_right (by omega),show j * 4+1 - hs.length=1 by omega];rfl
  ·rw[List.getElem?_append_right (by omega),show j * 4+2 - hs.length=2 by omega];rfl
  ·rw[List.getElem?_append_right (by omega),show j * 4+3 - hs.length=3 by omega];rfl
 ·rw[List.getElem?_eq_none (by rw[List.length_append];simp;omega)]at hj
  cases hj
set_option maxRecDepth 10000 in
set_option maxHeartbeats 4000000 in
theorem lines_any (B V Wd E:List Int)(z:Int)(gB cB nB gV nV cV gW cW ge ce K:Nat)(w:World)(hr:Rises B z)(hnB:nB=B.length)(hB1:nB≤1000)(hn:nV≤1000)(hK0:0<K)(hK:K≤1000)(hce:K+1≤ce)
 (hB:rowAt w gB nB B) (hV:rowAt w gV nV V) (hW:rowAt w gW nV Wd) (hE:rowAt w ge (K+1) E) (hvb:∀i,0≤nth V i∧nth V i≤1000) (hwb:∀k,k<nV→0≤nth Wd k∧nth Wd k≤429496729600)
 (hcut:∀j,j<K→cidx B (nth E j)≤cidx B (nth E (j+1))∧cidx B (nth E (j+1))≤nV) :
 Calls Tryz.prog 114 #[.agg #[.slice (some ⟨gB,0,none⟩) nB cB,.slice (some ⟨gV,0,none⟩) nV cV,.slice (some ⟨gW,0,none⟩) nV cW],.slice (some ⟨ge,0,none⟩) (K+1) ce] w fun e w'=>∃vL hs,e=.returned vL∧w'.ownsRow w.heap.size 69 4 vL K hs∧lnsAt w' w.heap.size w'.heap.size hs (lnsP B V Wd E K)∧Fr [] w w':=by
 obtain⟨i51,hi51,hx0,hx1,hx2⟩:=info_parts info69;obtain⟨vS,hvS⟩:∃vS:Array Value,vS=#[.slice (some ⟨gB,0,none⟩) nB cB,.slice (some ⟨gV,0,none⟩) nV cV,.slice (some ⟨gW,0,none⟩) nV cW]:=⟨_,rfl⟩;obtain⟨wb,hwb'⟩:∃wb,wb=w.alloc (.cells #[.slice (some ⟨gB,0,none⟩) nB cB,.slice (some ⟨gV,0,none⟩) nV cV,.slice (some ⟨gW,0,none⟩) nV cW] 146):=⟨_,rfl⟩;have HFb:=hid (show Fr [] w wb by rw[hwb'];exact(Fr.refl [] w).alloc _);have HOB:=hid (show wb.heap[w.heap.size]?=some (.cells #[.slice (some ⟨gB,0,none⟩) nB cB,.slice (some ⟨gV,0,none⟩) nV cV,.slice (some ⟨gW,0,none⟩) nV cW] 146 (0,0)) by rw[hwb'];exact obj_new w _);have hwbs:wb.heap.size=w.heap.size+1:=by rw[hwb'];simp
 have HV:=hid hV;have HW:=hid hW;have HE:=hid hE;have HVB:=hid hvb;have HWB:=hid hwb;have HCT:=hid hcut;have HA:=hid (fun(x:Int) (X:World) (hf:Fr [] w X)=>at_any B z hr x gB cB nB (.slice (some ⟨gV,0,none⟩) nV cV) (.slice (some ⟨gW,0,none⟩) nV cW) X hnB hB1 (hB.fr hf List.not_mem_nil));clear hvS hV hW hE hB hvb hwb hcut hr hnB vS;have hce1:¬ce=1:=by omega
 have hce2:1<ce:=by omega
 go_enter Tryz.func114,Tryz.ntmps114;go_wp2_with fail;rw[←hwb'];go_loopw [5,13] (fun vL kk wr=>∃(i:Nat) (hs:List Value),kk=.int .i64 i∧i≤K∧Hid (wr.ownsRow (w.heap.size+1) 69 4 vL i hs)∧Hid (lnsAt wr (w.heap.size+1) wr.heap.size hs (lnsP B V Wd E i))∧Hid (Fr [] wb wr)) (fun _ kk _=>K - (intOf kk).toNat)
 case atStart=>exact⟨0,[],rfl,Nat.zero_le _,hid ⟨rfl,.inl ⟨rfl,rfl⟩⟩,hid (fun j l hj=>by simp[lnsP]at hj),hid (Fr.refl _ _)⟩
 case round =>
  obtain⟨i,hs,rfl,hiK,HL,HI,HF⟩:=hrel;have HFw:=hid (HFb.out.trans HF.out);by_cases hil:i<K
  ·have hiI:(i:Int)<(K:Int):=by omega
   have hiI2:(i:Int)<(K:Int)+1:=by omega
   have e0:=HE.out.fr HFw.out List.not_mem_nil i (by omega);have e1:wr.cell? ⟨ge,1+i,none⟩=some (.int .i64 (nth E (i+1))):=by rw[Nat.add_comm 1 i];exact HE.out.fr HFw.out List.not_mem_nil (i+1) (by omega)
   obtain⟨hc1,hc2⟩:=HCT.out i hil;obtain⟨aL,cL,hvL⟩:=owns_slice HL.out;subst hvL;have HLP:=hid (lnsP_snoc B V Wd E i);have HLN:=hid (show lnP B V Wd E i=⟨nth E i,nth E (i+1),(ordD (fun t=>nth V (cidx B (nth E i)+t)) (cidx B (nth E (i+1)) - cidx B (nth E i))).map (fun t=>t+cidx B (nth E i)),xs (fun k=>nth Wd k) ((ordD (fun t=>nth V (cidx B (nth E i)+t)) (cidx B (nth E (i+1)) - cidx B (nth E i))).map (fun t=>t+cidx B (nth E i))) (cidx B (nth E (i+1)) - cidx B (nth E i))⟩from rfl);generalize nth E i=ea at *;generalize nth E (i+1)=eb at *;have HOBr:=hid (obj_fr HOB.out HF.out List.not_mem_nil);have s0:wr.cell? ⟨w.heap.size,0,none⟩=some (.slice (some ⟨gB,0,none⟩) nB cB):=obj_cell HOBr.out (i:=0) rfl;have s1:wr.cell? ⟨w.heap.size,1,none⟩=some (.slice (some ⟨gV,0,none⟩) nV cV):=obj_cell HOBr.out (i:=1) rfl;have s2:wr.cell? ⟨w.heap.size,2,none⟩=some (.slice (some ⟨gW,0,none⟩) nV cW):=obj_cell HOBr.out (i:=2) rfl;have HVS:=hid (fun(X:World) (hf:Fr [] w X)=>vis_ab V gV nV cV (cidx B ea) (cidx B eb) (.slice (some ⟨gB,0,none⟩) nB cB) (.slice (some ⟨gW,0,none⟩) nV cW) X hn hc1 hc2 (HV.out.fr hf List.not_mem_nil) HVB.out);have HS0:=hid (And.intro s0 (And.intro s1 s2));have hbl:=World.block_lt_of_cell? _ _ s0;dsimp only at hbl;go_wp2_with fail;go_region_held (fun wz=>wz.cell? ⟨w.heap.size,0,none⟩=some (.slice (some ⟨gB,0,none⟩) nB cB)∧wz.cell? ⟨w.heap.size,1,none⟩=some (.slice (some ⟨gV,0,none⟩) nV cV)∧wz.cell? ⟨w.heap.size,2,none⟩=some (.slice (some ⟨gW,0,none⟩) nV cW))
    (first | exact HS1 | exact HS0.out | go_keep)
    (first
      | (go_at_call 100;refine(HA.out _ _ ?fa).mono ?_;(case fa=>first | exact HF1.out.trans (frz _ _ _ rfl rfl rfl rfl) | exact HFw.out.trans (frz _ _ _ rfl rfl rfl rfl));rintro e w1 ⟨rfl,hf1⟩;have HF1:=hid (show Fr [] w w1 from by first | exact HF1.out.trans ⟨hf1.os,hf1.tape,hf1.output,hf1.size,hf1.block⟩ | exact HFw.out.trans ⟨hf1.os,hf1.tape,hf1.output,hf1.size,hf1.block⟩);have HG1:=hid (show Fr [] wr w1 from by first | exact HG1.out.trans ⟨hf1.os,hf1.tape,hf1.output,hf1.size,hf1.block⟩ | exact⟨hf1.os,hf1.tape,hf1.output,hf1.size,hf1.block⟩);have HS1:=And.intro (HG1.out.cell s0 List.not_mem_nil) (And.intro (HG1.out.cell s1 List.not_mem_nil) (HG1.out.cell s2 List.not_mem_nil));clear hf1)
      | (go_at_call 147;refine(HVS.out _ ?fb).mono ?_;(case fb=>exact HF1.out.trans (frz _ _ _ rfl rfl rfl rfl));rintro e w2 ⟨go,rfl,own2,hf2⟩;have HO2:=hid (owns_low (base':=w.heap.size+1) own2 (Nat.le_trans hbl HG1.out.size));have HG2:=hid (show Fr [] wr w2 from HG1.out.trans ⟨hf2.os,hf2.tape,hf2.output,hf2.size,hf2.block⟩);have hsz2:=HG1.out.size;have HS1:=And.intro (HG2.out.cell s0 List.not_mem_nil) (And.intro (HG2.out.cell s1 List.not_mem_nil) (HG2.out.cell s2 List.not_mem_nil));clear own2 hf2))
   all_goals (
    obtain⟨O,hO⟩:∃O,O=(ordD (fun t=>nth V (cidx B ea+t)) (cidx B eb - cidx B ea)).map (fun t=>t+cidx B ea):=⟨_,rfl⟩
    have HOL:=hid (show O.length=cidx B eb - cidx B ea by rw[hO,List.length_map,ordD_len])
    have HON:=hid (fun t (ht:t<cidx B eb - cidx B ea)=>show nix O t<nV by
     rw[hO,nix_map (by rw[ordD_len];exact ht)]
     have:=ordD_lt (fun t=>nth V (cidx B ea+t)) (cidx B eb - cidx B ea) _ (nix_mem (l:=ordD (fun t=>nth V (cidx B ea+t)) (cidx B eb - cidx B ea)) (k:=t) (by rw[ordD_len];exact ht))
     omega)
    rw[←hO]at HO2 HLN
    clear hO
    have HNB:=hid (show cidx B eb - cidx B ea≤1000 by omega)
    generalize cidx B eb - cidx B ea=N at *
    have hNB:=HNB.out
    have HFw2:=hid (HFw.out.trans HG2.out)
    have HGP:=hid (fun(X:World) (hf:Fr [] w2 X)=>gaps_any Wd gW nV cW go N N O (.slice (some ⟨gB,0,none⟩) nB cB) (.slice (some ⟨gV,0,none⟩) nV cV) X hNB ((HW.out.fr HFw2.out List.not_mem_nil).fr hf List.not_mem_nil) (owns_rowN (owns_fr0 HO2.out hf) HOL.out) HON.out HWB.out)
    obtain⟨t0,t1,t2⟩:=HS1
    have hbl2:=HG2.out.size
    go_wp2_with (first
     | (go_at_call 148;refine(HGP.out _ ?fa).mono ?_;(case fa=>exact frz _ _ _ rfl rfl rfl rfl);rintro e w3 ⟨gx,cx,rfl,own3,hf3⟩;have HX3:=hid (owns_low (base':=w.heap.size+1) own3 (Nat.le_trans hbl hbl2));have HG3:=hid (show Fr [] w2 w3 from⟨hf3.os,hf3.tape,hf3.output,hf3.size,hf3.block⟩);have hbl3:=HG3.out.size;have HL3:=hid (owns_fr0 HL.out (HG2.out.trans HG3.out));clear own3 hf3)
     | (at_builtin;refine wpList_append_own _ rfl _ _ 143 rfl (w.heap.size+1) 69 i51 _ 4 64 Tryz.underlying143 hi51 hx0 hx1 hx2 rfl (by decide) _ i hs rfl ?own _ 1 1 [.int .i64 ea,.int .i64 eb,.slice (some ⟨go,0,none⟩) N N,.slice (some ⟨gx,0,none⟩) (N+1) cx] rfl rfl (news_at _ _ _ _ (by simp)) (line_one _ _ _ _ _ _ _ _) (by unfold maxLen;omega) (by omega) ?szz ?_))
    case own=>exact HL3.out.alloc _
    case szz=>simp;omega
    intro v' w' hown hgrow hnil
    obtain⟨g',c',hv'⟩:=owns_shape (by omega) hown
    subst hv'
    have HHO:=hid hown
    have HHG:=hid hgrow
    have HF3:=hid (show Fr [] w2 (w3.alloc (.cells #[.int .i64 ea,.int .i64 eb,.slice (some ⟨go,0,none⟩) N N,.slice (some ⟨gx,0,none⟩) (N+1) cx] 69))from HG3.out.alloc _)
    have HKD:=hid (fun(e:Nat) (v:Value) (m:Nat) (xs:List Value) (he:e=3∨e=2) (hh:(w3.alloc (.cells #[.int .i64 ea,.int .i64 eb,.slice (some ⟨go,0,none⟩) N N,.slice (some ⟨gx,0,none⟩) (N+1) cx] 69)).ownsRow (w.heap.size+1) e 1 v m xs)=>show w'.ownsRow (w.heap.size+1) e 1 v m xs from owns_kind hh HHG.out (fun g hg=>by
     obtain⟨cs,t',f',h5,h6⟩:=owns_type (HL3.out.alloc (.cells #[.int .i64 ea,.int .i64 eb,.slice (some ⟨go,0,none⟩) N N,.slice (some ⟨gx,0,none⟩) (N+1) cx] 69)) hg
     exact⟨cs,t',f',h5,by rw[h6];rcases he with rfl | rfl <;> decide⟩))
    have hszw:w3.heap.size≤w'.heap.size:=by have h5:=hgrow.size;simp at h5;omega
    have HI4:=hid (show lnsAt w' (w.heap.size+1) w'.heap.size (hs++[.int .i64 ea,.int .i64 eb,.slice (some ⟨go,0,none⟩) N N,.slice (some ⟨gx,0,none⟩) (N+1) cx]) (lnsP B V Wd E (i+1)) by
     rw[HLP.out,HLN.out]
     refine lnsAt.snoc (l:=⟨ea,eb,O,xs (fun k=>nth Wd k) O N⟩) (n:=i) HI.out (lnsP_len B V Wd E i).symm HL.out.1 (by have:=HG2.out.size;have:=HG3.out.size;omega) (fun e v m xs he _ hh=>HKD.out e v m xs he (owns_fr0 hh (HG2.out.trans HF3.out))) ?_ ?_ ?_ ?_
     ·dsimp only;rw[HOL.out];exact HKD.out 3 _ _ _ (.inl rfl) (owns_fr0 HO2.out HF3.out)
     ·dsimp only;rw[xs_len];exact HKD.out 2 _ _ _ (.inr rfl) (HX3.out.alloc _)
     ·intro g hg;cases hg;have:=(owns_at HO2.out).2;show go<_;omega
     ·intro g hg;cases hg;have:=(owns_at HX3.out).2;show gx<_;omega)
    have HF4:=hid (show Fr [] wb w' from(HF.out.trans (HG2.out.trans HF3.out)).grown HHG.out (fun g hg=>by
     have:=(HL3.out.lt g hg).1;omega))
    clear hown hgrow hnil
    go_wp2
    go_roundw
    case rel=>exact⟨i+1,_,by go_num,by omega,HHO,HI4,HF4⟩
    case measure=>simp[intOf];omega)
  ·obtain rfl:i=K:=by omega
   have hiI:¬(i:Int)<(i:Int):=by omega
   have HIL:=hid (show lnsAt wr w.heap.size wr.heap.size hs (lnsP B V Wd E i)from fun j l hj=>by
    obtain⟨vO,vX,a1,a2,a3,a4,a5,a6,a7⟩:=HI.out j l hj
    exact⟨vO,vX,a1,a2,a3,a4,owns_low a5 (by omega),owns_low a6 (by omega),a7⟩)
   go_wp2;go_ret;exact⟨_,rfl,hs,owns_low HL.out (by omega),HIL.out,HFw.out⟩
end Go.Proofs.YtnakejhohdbfdacGreatDoor
namespace Go.Proofs.YtnakejhohdbfdacGreatDoor
open Go
theorem get_head (s:ByteArray)(q j:Nat)(hj:j<q):(s.extract 0 q).get! j=s.get! j:=by
 rw[←Lib.getD_get!',←Lib.getD_get!',Lib.extract_data,List.drop_zero,Nat.sub_zero,List.getD,List.getD,List.getElem?_take_of_lt hj]
theorem size_head (s:ByteArray)(q:Nat)(hq:q≤s.size):(s.extract 0 q).size=q:=by rw[ByteArray.size_extract];omega
theorem decodeN_head (n m b0 b1 b2 b3 c1 c2 c3:Nat)(hm:m≤n)(h1:1<m→c1=b1)(h2:2<m→c2=b2)(h3:3<m→c3=b3)(hw:(Lib.decodeN n b0 b1 b2 b3).2≤m):Lib.decodeN m b0 c1 c2 c3=Lib.decodeN n b0 b1 b2 b3:=by
 revert hw;unfold Lib.decodeN;by_cases a0:b0<128
 ·rw[if_pos a0,if_pos a0];intro _;rfl
 rw[if_neg a0,if_neg a0];by_cases a1:b0 / 32=6∧1<n∧b1 / 64=2
 ·rw[if_pos a1]
  have n2:¬b0 / 16=14:=by omega
  have n3:¬b0 / 8=30:=by omega
  by_cases a2:1<m
  ·rw[h1 a2,if_pos (show b0 / 32=6∧1<m∧b1 / 64=2 from⟨a1.1,a2,a1.2.2⟩)];intro _;rfl
  ·rw[if_neg (show ¬(b0 / 32=6∧1<m∧c1 / 64=2)from fun h=>a2 h.2.1),if_neg (show ¬(b0 / 16=14∧(1<m∧c1 / 64=2)∧2<m∧c2 / 64=2)from fun h=>n2 h.1),if_neg (show ¬(b0 / 8=30∧(1<m∧c1 / 64=2)∧(2<m∧c2 / 64=2)∧3<m∧c3 / 64=2)from fun h=>n3 h.1)]
   split
   ·intro hw;dsimp only at hw;omega
   ·intro _;rfl
 rw[if_neg a1,if_neg (show ¬(b0 / 32=6∧1<m∧c1 / 64=2)from fun h=>a1 ⟨h.1,by omega,by rw[←h1 h.2.1];exact h.2.2⟩)];by_cases a2:b0 / 16=14∧(1<n∧b1 / 64=2)∧2<n∧b2 / 64=2
 ·rw[if_pos a2]
  have n3:¬b0 / 8=30:=by omega
  by_cases a3:2<m
  ·rw[h1 (by omega),h2 a3,if_pos (show b0 / 16=14∧(1<m∧b1 / 64=2)∧2<m∧b2 / 64=2 from⟨a2.1,⟨by omega,a2.2.1.2⟩,a3,a2.2.2.2⟩)];intro _;rfl
  ·rw[if_neg (show ¬(b0 / 16=14∧(1<m∧c1 / 64=2)∧2<m∧c2 / 64=2)from fun h=>a3 h.2.2.1),if_neg (show ¬(b0 / 8=30∧(1<m∧c1 / 64=2)∧(2<m∧c2 / 64=2)∧3<m∧c3 / 64=2)from fun h=>n3 h.1)]
   split
   ·intro hw;dsimp only at hw;omega
   ·intro _;rfl
 rw[if_neg a2,if_neg (show ¬(b0 / 16=14∧(1<m∧c1 / 64=2)∧2<m∧c2 / 64=2)from fun h=>a2 ⟨h.1,⟨by omega,by rw[←h1 h.2.1.1];exact h.2.1.2⟩,by omega,by rw[←h2 h.2.2.1];exact h.2.2.2⟩)];by_cases a3:b0 / 8=30∧(1<n∧b1 / 64=2)∧(2<n∧b2 / 64=2)∧3<n∧b3 / 64=2
 ·rw[if_pos a3]
  by_cases a4:3<m
  ·rw[h1 (by omega),h2 (by omega),h3 a4,if_pos (show b0 / 8=30∧(1<m∧b1 / 64=2)∧(2<m∧b2 / 64=2)∧3<m∧b3 / 64=2 from⟨a3.1,⟨by omega,a3.2.1.2⟩,⟨by omega,a3.2.2.1.2⟩,a4,a3.2.2.2.2⟩)];intro _;rfl
  ·rw[if_neg (show ¬(b0 / 8=30∧(1<m∧c1 / 64=2)∧(2<m∧c2 / 64=2)∧3<m∧c3 / 64=2)from fun h=>a4 h.2.2.2.1)]
   split
   ·intro hw;dsimp only at hw;omega
   ·intro _;rfl
 rw[if_neg a3,if_neg (show ¬(b0 / 8=30∧(1<m∧c1 / 64=2)∧(2<m∧c2 / 64=2)∧3<m∧c3 / 64=2)from fun h=>a3 ⟨h.1,⟨by omega,by rw[←h1 h.2.1.1];exact h.2.1.2⟩,⟨by omega,by rw[←h2 h.2.2.1.1];exact h.2.2.1.2⟩,by omega,by rw[←h3 h.2.2.2.1];exact h.2.2.2.2⟩)];intro _;rfl
theorem decode_head (s:ByteArray)(q p:Nat)(hq:q≤s.size)(hp:p<q)(hw:p+(Utf8.decode s p).2≤q):Utf8.decode (s.extract 0 q) p=Utf8.decode s p:=by
 rw[Lib.decode_at]at hw;rw[Lib.decode_at,Lib.decode_at,size_head s q hq,get_head s q p hp];exact decodeN_head _ _ _ _ _ _ _ _ _ (by omega) (fun h=>by rw[get_head s q _ (by omega)]) (fun h=>by rw[get_head s q _ (by omega)]) (fun h=>by rw[get_head s q _ (by omega)]) (by omega)
open Dec in
theorem pos_head {s:ByteArray}{n m:Nat}(h:Dec.Ends s n)(hm:m≤n):∀k,k≤m→Dec.pos (s.extract 0 (Dec.pos s m)) k=Dec.pos s k
 | 0,_=>rfl
 | k+1,hk=>by
   have ih:=pos_head h hm k (by omega);have hl:Dec.pos s k<Dec.pos s m:=Dec.pos_mono s k m (by omega);have hs:Dec.pos s m≤s.size:=by
    rcases Nat.lt_or_eq_of_le hm with h1 | h1
    ·exact Nat.le_of_lt (h.2 m h1)
    ·rw[h1,h.1];exact Nat.le_refl _
   have hle:Dec.pos s (k+1)≤Dec.pos s m:=by
    rcases Nat.lt_or_eq_of_le hk with h1 | h1
    ·exact Nat.le_of_lt (Dec.pos_mono s _ _ h1)
    ·rw[h1];exact Nat.le_refl _
   rw[Dec.pos,ih,decode_head s _ _ hs hl hle];rfl
theorem ends_head {s:ByteArray}{n m:Nat}(h:Dec.Ends s n)(hm:m≤n):Dec.Ends (s.extract 0 (Dec.pos s m)) m:=by
 have hs:Dec.pos s m≤s.size:=by
  rcases Nat.lt_or_eq_of_le hm with h1 | h1
  ·exact Nat.le_of_lt (h.2 m h1)
  ·rw[h1,h.1];exact Nat.le_refl _
 refine⟨by rw[pos_head h hm m (Nat.le_refl _),size_head s _ hs],fun j hj=>?_⟩;rw[pos_head h hm j (by omega),size_head s _ hs];exact Dec.pos_mono s j m hj
theorem rune_head {s:ByteArray}{n m k:Nat}(h:Dec.Ends s n)(hm:m≤n)(hk:k<m):Dec.rune (s.extract 0 (Dec.pos s m)) k=Dec.rune s k:=by
 have hs:Dec.pos s m≤s.size:=by
  rcases Nat.lt_or_eq_of_le hm with h1 | h1
  ·exact Nat.le_of_lt (h.2 m h1)
  ·rw[h1,h.1];exact Nat.le_refl _
 have hle:Dec.pos s (k+1)≤Dec.pos s m:=by
  rcases Nat.lt_or_eq_of_le (show k+1≤m by omega)with h1 | h1
  ·exact Nat.le_of_lt (Dec.pos_mono s _ _ h1)
  ·rw[h1];exact Nat.le_refl _
 rw[Dec.rune,Dec.rune,pos_head h hm k (by omega),decode_head s _ _ hs (Dec.pos_mono s k m hk) hle]
end Go.Proofs.YtnakejhohdbfdacGreatDoor
namespace Go.Proofs.YtnakejhohdbfdacGreatDoor
open Go.RowKit Lev Lay Bnd
def anyB (K:List Int):Nat→Bool
 | 0=>false
 | k+1=>anyB K k || nth K k == 10
theorem early_anyB {K:List Int}{P:Nat→Nat}{m:Nat}(hP:∀i j,i<j→P i<P j):∀k,Lay.early K P ((P m:Nat):Int) k=anyB K (min k m)
 | 0=>by rw[Nat.zero_min];rfl
 | k+1=>by
   rw[Lay.early,early_anyB hP k];by_cases h:k<m
   ·rw[show min (k+1) m=min k m+1 by omega,anyB,show min k m=k by omega,decide_eq_true (by have:=hP k m h;omega),Bool.and_true]
   ·have h1:¬((P k:Nat):Int)<((P m:Nat):Int):=by
     rcases Nat.lt_or_eq_of_le (Nat.le_of_not_lt h)with h2 | h2
     ·have:=hP m k h2;omega
     ·rw[h2];omega
    rw[show min (k+1) m=min k m by omega,decide_eq_false h1,Bool.and_false,Bool.or_false]
theorem anyB_mono {K:List Int}:∀ {k j:Nat},k≤j→anyB K k=true→anyB K j=true
 | k,0,h,hf=>by obtain rfl:k=0:=by omega
                exact hf
 | k,j+1,h,hf=>by
   rcases Nat.lt_or_eq_of_le h with h1 | h1
   ·rw[anyB,anyB_mono (by omega) hf,Bool.true_or]
   ·rw[←h1];exact hf
theorem tab_fr {w w':World}{g:Nat}{l:List (Int × Int × Int)}(h:Cls.TabAt w g l)(hf:Fr [] w w'):Cls.TabAt w' g l:=fun i hi =>
 ⟨hf.cell (h i hi).1 List.not_mem_nil,hf.cell (h i hi).2.1 List.not_mem_nil,hf.cell (h i hi).2.2 List.not_mem_nil⟩
set_option maxRecDepth 10000 in
set_option maxHeartbeats 4000000 in
theorem early_any (s:ByteArray)(n m:Nat)(B:List Int)(gB cB:Nat)(w:World)(hs:s.size≤400)(hend:Dec.Ends s n)(hm:m≤n)(hl:B.length≤1000)(hB0:1≤B.length)(hrow:rowAt w gB B.length B)(hB:nth B (B.length - 2)=((Dec.pos s m:Nat):Int))(h3:Cls.TabAt w 1 Tabs.lowTab)(h4:Cls.TabAt w 2 Tabs.highTab) :
 Calls Tryz.prog 109 #[.string s,.slice (some ⟨gB,0,none⟩) B.length cB] w fun e w'=>e=.returned (.bool (anyB (clsOf s n) m))∧Fr [] w w':=by
 have HE:=hid (ends_head hend hm);have HRU:=hid (fun k (hk:k<m)=>rune_head hend hm hk);have HK:=hid (fun k (hk:k<m)=>clsOf_at s (n:=n) (show k<n by omega));have e0:=hrow (B.length - 2) (by omega);rw[hB]at e0;have hq:Dec.pos s m≤s.size:=by
  rcases Nat.lt_or_eq_of_le hm with h1 | h1
  ·exact Nat.le_of_lt (hend.2 m h1)
  ·rw[h1,hend.1];exact Nat.le_refl _
 obtain⟨q,hqq⟩:∃q,q=Dec.pos s m:=⟨_,rfl⟩;rw[←hqq]at HE HRU e0 hq;obtain⟨nb,hnb⟩:∃nb,nb=B.length:=⟨_,rfl⟩;rw[←hnb]at hl hB0 e0 ⊢;obtain⟨R,hR⟩:∃R,R=anyB (clsOf s n) m:=⟨_,rfl⟩;rw[←hR];have HR:=hid hR;have HMO:=hid (fun k (hk:k≤m) h=>anyB_mono (K:=clsOf s n) (k:=k) (j:=m) hk h);have HT:=hid (fun(w':World) (hf:Fr [] w w')=>(⟨tab_fr h3 hf,tab_fr h4 hf⟩:Cls.TabAt w' 1 Tabs.lowTab∧Cls.TabAt w' 2 Tabs.highTab));obtain⟨st,hst⟩:∃st,st=s.extract 0 q:=⟨_,rfl⟩;rw[←hst]at HE HRU;have hstz:st.size=q:=by rw[hst];exact size_head s q hq
 have HSTZ:=hid hstz;have hmq:m≤q:=by rw[hqq];exact Dec.le_pos s m
 have hwr:IntKind.i64.wrap ((nb:Int) - 2)=(nb:Int) - 2:=by rw[IntKind.wrap_i64];omega
 have hmx:max ((nb:Int) - 2) 0=((nb - 2:Nat):Int):=by omega
 have hnbL:((nb - 2:Nat):Int)<(nb:Int):=by omega
 have hq4:q≤400:=by omega
 have HST:=hid hst;clear hR hnb hend hrow hB h3 h4 hstz hst hqq;go_enter Tryz.func109,Tryz.ntmps109;go_wp2_with fail;rw[←HST.out];go_loopw [] (fun wr=>∃k p:Nat,p≤st.size∧k≤m∧wr.heap[w.heap.size]?=some (.stringIter st p)∧Hid (p=Dec.pos st k)∧Hid (Fr [] w wr)∧Hid (anyB (clsOf s n) k=false)) (fun wr=>st.size - wr.iterPos w.heap.size)
 case atStart=>exact⟨0,0,Nat.zero_le _,Nat.zero_le _,World.iter_heap _ _ _,hid rfl,hid (fr_iter _ _ _),hid rfl⟩
 case round =>
  obtain⟨k,p,hp,hkm,hit,HP,HF,HA⟩:=hrel;by_cases hlt:p<st.size
  ·have hkm2:k<m:=by
    rcases Nat.lt_or_eq_of_le hkm with h | h
    ·exact h
    ·have h1:=HE.out.1;rw[←h,←HP.out]at h1;omega
   have hw2:=Dec.width_le st p hlt;have hw1:=Dec.width_pos st p;have hnx:=fun ty=>Lib.run_next_any_at (P:=Tryz.prog) wr w.heap.size st p ty hit hlt
   have HQ:=hid (show p+(Utf8.decode st p).2=Dec.pos st (k+1) by rw[HP.out];rfl);have HRV:=hid (show(((Utf8.decode st p).1:Nat):Int)=Dec.rune s k by rw[←HRU.out k hkm2,HP.out];rfl);have HS:=hid (show anyB (clsOf s n) (k+1)=(Tabs.look Tabs.classTab (Dec.rune s k) == 10) by rw[anyB,HA.out,Bool.false_or,HK.out k hkm2]);rw[←HRV.out]at HS;have HM:=hid (HMO.out (k+1) hkm2);generalize (Utf8.decode st p).1=r at *;generalize (Utf8.decode st p).2=d at *;have HI:=hid (Lib.iterAt_heap wr w.heap.size st p (p+d) hit);have HFI:=hid (show Fr [] w (wr.iterAt w.heap.size st (p+d))from Fr.of_below (Lib.below_iterAt (HF.out.below (Nat.le_refl _) (fun _ h=>absurd h List.not_mem_nil)) (Nat.le_refl _) st (p+d)));have HIT:=hid hit;generalize wr.iterAt w.heap.size st (p+d)=wi at *;have HC:=hid (Cls.fn22_any (r:Int) wi (HT.out wi HFI.out).1 (HT.out wi HFI.out).2);generalize Tabs.look Tabs.classTab (r:Int)=c at *;clear hit;go_wp2_with fail;refine HC.out.mono ?_;rintro e w1 ⟨rfl,hb1⟩;have HF1:=hid (HFI.out.trans (Fr.of_below (S:=[]) hb1));have HI1:=hid (show w1.heap[w.heap.size]?=some (.stringIter st (p+d)) by rw[hb1.block _ (obj_lt HI.out)];exact HI.out);clear hb1 HC HI HFI hnx;by_cases hc:c=10
   ·have HRv:=hid (show R=true by rw[HR.out];exact HM.out (by rw[HS.out,hc];rfl))
    subst hc;go_wp2;go_ret;exact⟨retB HRv.out.symm,HF1.out⟩
   ·have hc':(c == 10)=false:=by simp[hc]
    have HA2:=hid (HS.out.trans hc');go_wp2;go_roundw
    case rel=>exact⟨k+1,p+d,by omega,hkm2,HI1.out,HQ,HF1,HA2⟩
    case measure=>rw[iterPos_of HI1.out,iterPos_of HIT.out];omega
  ·have hnx:=fun ty=>Lib.run_next_end_at (P:=Tryz.prog) wr w.heap.size st p ty hit hlt
   have hkm2:k=m:=by
    rcases Nat.lt_or_eq_of_le hkm with h | h
    ·have h1:=HE.out.2 k h;rw[←HP.out]at h1;omega
    ·exact h
   have HRv:=hid (show R=false by rw[HR.out,←hkm2];exact HA.out);clear hkm2;go_wp2;go_ret;exact⟨retB HRv.out.symm,HF.out⟩
end Go.Proofs.YtnakejhohdbfdacGreatDoor

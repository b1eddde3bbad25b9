import Derived.Test.YtnakejhohdbfdaaGreatDoorXLdB
import Derived.Deep.RegionHeldLaw
import Derived.Deep.RegionLawGrows
import Derived.Test.YtnakejhohdbfdaaGreatDoorXMe
namespace Go.Proofs.YtnakejhohdbfdaaGreatDoor
open Go.RowKit Lev Lay
def xsum (f:Nat→Int)(o:List Nat):Nat→Int
 | 0=>0
 | k+1=>xsum f o k+f (nix o k)
def xs (f:Nat→Int)(o:List Nat)(k:Nat):List Int:=(List.range (k+1)).map (xsum f o)
theorem xs_snoc (f:Nat→Int)(o:List Nat)(k:Nat):xs f o (k+1)=xs f o k++[xsum f o k+f (nix o k)]:=by
 rw[xs,List.range_succ,List.map_append];rfl
theorem xs_len (f:Nat→Int)(o:List Nat)(k:Nat):(xs f o k).length=k+1:=by simp[xs]
theorem xs_at (f:Nat→Int)(o:List Nat){k j:Nat}(h:j≤k):nth (xs f o k) j=xsum f o j:=by
 have:j<k+1:=by omega
 simp[nth,xs,this]
theorem xsum_bound (f:Nat→Int)(M:Int)(h:∀k,0≤f k∧f k≤M)(o:List Nat):∀k:Nat,0≤xsum f o k∧xsum f o k≤k * M
 | 0=>by simp[xsum]
 | k+1=>by
   have ih:=xsum_bound f M h o k;have:=h (nix o k);have e:((k+1:Nat):Int) * M=k * M+M:=by rw[Int.natCast_add,Int.add_mul];simp
   rw[xsum];omega
def clOf (P:Nat→Nat)(ri:Nat→Nat)(Ev:Nat→Int)(W:List Int)(k:Nat):Int × Int × Int × Int:=(((P (ri k):Nat):Int),((P (ri (k+1)):Nat):Int),Ev (ri k),wid W (ri k) (ri (k+1)))
def clst (P:Nat→Nat)(ri:Nat→Nat)(Ev:Nat→Int)(W:List Int)(m:Nat):List (Int × Int × Int × Int):=(List.range m).map (clOf P ri Ev W)
theorem clst_snoc (P:Nat→Nat)(ri:Nat→Nat)(Ev:Nat→Int)(W:List Int)(m:Nat):clst P ri Ev W (m+1)=clst P ri Ev W m++[clOf P ri Ev W m]:=by
 rw[clst,List.range_succ,List.map_append];rfl
theorem clst_len (P:Nat→Nat)(ri:Nat→Nat)(Ev:Nat→Int)(W:List Int)(m:Nat):(clst P ri Ev W m).length=m:=by simp[clst]
theorem clst_at (P:Nat→Nat)(ri:Nat→Nat)(Ev:Nat→Int)(W:List Int){m k:Nat}(h:k<m):(clst P ri Ev W m)[k]?=some (clOf P ri Ev W k):=by simp[clst,h]
def lnOf (P:Nat→Nat)(ri:Nat→Nat)(Ev:Nat→Int)(W:List Int)(a b:Nat):Ln :=
 let o:=(ordD (fun t=>Ev (ri (a+t))) (b - a)).map (fun t=>t+a)
 ⟨((P (ri a):Nat):Int),((P (ri b):Nat):Int),o,xs (fun k=>wid W (ri k) (ri (k+1))) o (b - a)⟩
def evs (ri:Nat→Nat)(Ev:Nat→Int)(a k:Nat):List Int:=(List.range k).map fun t=>Ev (ri (a+t))
theorem evs_snoc (ri:Nat→Nat)(Ev:Nat→Int)(a k:Nat):evs ri Ev a (k+1)=evs ri Ev a k++[Ev (ri (a+k))]:=by
 rw[evs,List.range_succ,List.map_append];rfl
theorem evs_at {ri:Nat→Nat}{Ev:Nat→Int}{a N i:Nat}(h:i<N):nth (evs ri Ev a N) i=Ev (ri (a+i)):=by simp[nth,evs,h]
theorem topTo_congr {V U:Nat→Int}:∀n,(∀i,i<n→V i=U i)→topTo V n=topTo U n
 | 0,_=>rfl
 | n+1,h=>by rw[topTo,topTo,topTo_congr n (fun i hi=>h i (by omega)),h n (by omega)]
theorem ordD_congr {V U:Nat→Int}{n:Nat}(h:∀i,i<n→V i=U i):ordD V n=ordD U n:=by
 rw[ordD,ordD,topTo_congr n h];exact tds_congr 1 _ _ (fun x hx=>h x (List.mem_range.1 hx))
theorem nix_map {l:List Nat}{f:Nat→Nat}{t:Nat}(h:t<l.length):nix (l.map f) t=f (nix l t):=by simp[nix,h]
theorem odT_at {O od:List Nat}{t:Nat}(h:t≤O.length):nix (O.take t++od.drop t) t=nix od t:=by
 rw[nix,List.getElem?_append_right (by rw[List.length_take];omega),List.length_take,List.getElem?_drop,nix]
 congr 2;omega
theorem odT_step {O od:List Nat}{t:Nat}(h:t<od.length)(hl:O.length=od.length){y:Nat}(hy:nix O t=y):(O.take t++od.drop t).set t y=O.take (t+1)++od.drop (t+1):=by
 rw[List.set_append_right _ _ (by rw[List.length_take];omega),List.length_take,show t - min t O.length=0 by omega,drop_next od t h,List.set_cons_zero,take_next O t (by omega)];rw[nix]at hy;rw[hy];simp
theorem xsum_bound2 (f:Nat→Int)(M:Int)(o:List Nat):∀k:Nat,(∀j,j<k→0≤f (nix o j)∧f (nix o j)≤M)→0≤xsum f o k∧xsum f o k≤k * M
 | 0,_=>by simp[xsum]
 | k+1,h=>by
   have ih:=xsum_bound2 f M o k (fun j hj=>h j (by omega));have:=h k (by omega);have e:((k+1:Nat):Int) * M=k * M+M:=by rw[Int.natCast_add,Int.add_mul];simp
   rw[xsum];omega
theorem cell_grown {w w':World}{b g i:Nat}{v:Value}(hg:w.grownBy w' (some g))(hc:w.cell? ⟨b,i,none⟩=some v)(hb:b≠g):w'.cell? ⟨b,i,none⟩=some v :=
 (World.cell?_of_block (a:=⟨b,i,none⟩) (hg.block b (World.block_lt_of_cell? _ _ hc) (fun e=>hb (Option.some.inj e)))).trans hc
theorem frA (w:World)(o:Obj):Fr [] w (w.alloc o).drew:=((Fr.refl [] w).alloc o).drew
theorem line_one (a b:Int)(c d:Option Addr)(e f g h:Nat):∀u∈[Value.int .i64 a,.int .i64 b,.slice c e f,.slice d g h],u.oneCell'=true:=by
 intro u hu;simp only[List.mem_cons,List.not_mem_nil,or_false]at hu
 rcases hu with rfl | rfl | rfl | rfl <;> rfl
def lvT (Ev:Nat→Int)(r t:Nat):Int:=if t≤r then -1 else Ev r
theorem Fr.set_new {S:List Nat}{w w':World}(h:Fr S w w'){b i:Nat}{v:Value}(hb:w.heap.size≤b):Fr S w (w'.setCell ⟨b,i,none⟩ v) :=
 h.grown (row:=some b) grown_set (fun k e=>by cases e;exact hb)
structure Ctx (P:Nat→Nat)(ri:Nat→Nat)(Ev:Nat→Int)(W:List Int)(n c:Nat):Prop where
 n0:0<n
 n1:n≤400
 cn:c≤n
 mono:∀i j,i<j→P i<P j
 rim:∀i j,i<j→j≤c→ri i<ri j
 ric:ri c=n
 ev:∀i,0≤Ev i∧Ev i≤100
 wb:∀i,0≤nth W i∧nth W i≤1073741824
 pb:∀i,i≤n→P i≤400
set_option maxRecDepth 10000 in
set_option maxHeartbeats 40000000 in
theorem line_any (P:Nat→Nat)(ri:Nat→Nat)(Ev:Nat→Int)(W Bl:List Int)(n c:Nat)(X:Ctx P ri Ev W n c)(q:PH)(C L:List Int)(G:List Bool)(WB w:World)(U lb:Nat)(s:ByteArray)(base:Int)(vC vL:Value)(Ls:List Ln)(hs:List Value)(gW oW cW gB cB a b:Nat)
 (hL:LD WB w U lb s base vC vL (clst P ri Ev W a) Ls hs) (hU:U≤w.heap.size) (hLl:Ls.length≤1000) (hP:PS WB q C L G) (hG:∀i,i<q.n→(G[i]?).getD false=gone (nth q.K i)) (hqn:q.n=n) (hrP:rowQ WB q.bR n P) (hW:rowO WB gW oW n W) (hB:rowAt WB gB (c+1) Bl) (hBl:∀k,k≤c→nth Bl k=((P (ri k):Nat):Int))
 (hne:lb≠q.p∧lb≠q.bR∧lb≠q.bF∧lb≠q.bM∧lb≠q.bC∧lb≠q.bL∧lb≠q.bG∧lb≠gW∧lb≠gB) (hab:a<b) (hbc:b≤c) (hEv:∀i,ri a≤i→i<ri b→enD q.K L q.base (ri b) i=Ev i) :
 Calls Tryz.prog 96 #[.pointer (some ⟨lb,0,none⟩),.pointer (some ⟨q.p,0,none⟩),.slice (some ⟨gW,oW,none⟩) n cW,.slice (some ⟨gB,0,none⟩) (c+1) cB,.int .i64 (P (ri a):Nat),.int .i64 (P (ri b):Nat)] w
  fun e w'=>e=.returned (.tuple #[])∧∃vC' vL' hs',LD WB w' w'.heap.size lb s base vC' vL' (clst P ri Ev W b) (Ls++[lnOf P ri Ev W a b]) hs':=by
 obtain⟨i3,hi3,hz30,hz31,hz32⟩:=info_parts info3;obtain⟨i2,hi2,hz20,hz21,hz22⟩:=info_parts info2;obtain⟨i48,hi48,hy0,hy1,hy2⟩:=info_parts info48;obtain⟨i51,hi51,hx0,hx1,hx2⟩:=info_parts info51;have hric:=X.ric;have hra:ri a<ri b:=X.rim a b hab hbc;have hrb:ri b≤n:=by
  rcases Nat.lt_or_eq_of_le hbc with h | h
  ·have:=X.rim b c h (Nat.le_refl _);omega
  ·rw[h,hric];exact Nat.le_refl _
 have hn1:=X.n1;have hcn:=X.cn;have HX:=hid X;have HL:=hid hL;have HPS:=hid hP;have HG:=hid hG;have HRP:=hid hrP;have HW:=hid hW;have HBB:=hid hB;have HBL:=hid hBl;have HNE:=hid hne;have HEV:=hid hEv;have HQN:=hid hqn;have HPw:=hid (fun(w':World) (hf:Fr [lb] WB w')=>show PS w' q C L G from hP.fr hf (by simp only[List.mem_singleton];exact⟨fun h=>hne.1 h.symm,fun h=>hne.2.1 h.symm,fun h=>hne.2.2.1 h.symm,fun h=>hne.2.2.2.1 h.symm,fun h=>hne.2.2.2.2.1 h.symm,fun h=>hne.2.2.2.2.2.1 h.symm,fun h=>hne.2.2.2.2.2.2.1 h.symm⟩));have HRPw:=hid (fun(w':World) (hf:Fr [lb] WB w')=>show rowQ w' q.bR n P from hrP.fr hf (fun h=>hne.2.1 (List.mem_singleton.1 h).symm));have HWw:=hid (fun(w':World) (hf:Fr [lb] WB w')=>show rowO w' gW oW n W from hW.fr hf (fun h=>hne.2.2.2.2.2.2.2.1 (List.mem_singleton.1 h).symm));have HBw:=hid (fun(w':World) (hf:Fr [lb] WB w')=>show rowAt w' gB (c+1) Bl from hB.fr hf (fun h=>hne.2.2.2.2.2.2.2.2 (List.mem_singleton.1 h).symm));have c0:=(HPw.out w hL.fr).c0;rw[hqn]at c0;obtain⟨fa,hfa⟩:∃fa,fa=P (ri a):=⟨_,rfl⟩;obtain⟨tb,htb⟩:∃tb,tb=P (ri b):=⟨_,rfl⟩;obtain⟨ia,hia⟩:∃ia,ia=ri a:=⟨_,rfl⟩;obtain⟨ib,hib⟩:∃ib,ib=ri b:=⟨_,rfl⟩;rw[←hfa,←htb];rw[←hia]at hfa hra HEV;rw[←hib]at htb hra hrb HEV;have HIA:=hid hia;have HIB:=hid hib;have HFA:=hid hfa;have HTB:=hid htb;have hfab:fa<tb:=by rw[hfa,htb];exact X.mono _ _ hra
 have htb4:tb≤400:=by rw[htb];exact X.pb _ hrb
 clear hL hP hG hrP hW hB hBl hne hEv hqn hric hfa htb hia hib X;go_enter Tryz.func96,Tryz.ntmps96;go_wp2_with fail;go_loop [12] (fun ii=>∃i:Nat,i≤ia∧ii=.int .i64 i) (fun ii=>ia - (intOf ii).toNat)
 case atStart=>exact⟨0,Nat.zero_le _,rfl⟩
 case round =>
  obtain⟨i,hii,rfl⟩:=hrel;have d0:=HRPw.out w HL.out.fr i (by omega);have hiI:(i:Int)<(n:Int):=by omega
  by_cases hil:i<ia
  ·have h1:((P i:Nat):Int)<(fa:Int):=by have:=HX.out.mono _ _ hil;rw[←HFA.out]at this;omega
   generalize P i=y at d0 h1;go_wp2;go_round
   case rel=>exact⟨i+1,by omega,by go_num⟩
   case measure=>simp[intOf];omega
  ·obtain rfl:ia=i:=by omega
   have h1:¬((P ia:Nat):Int)<(fa:Int):=by rw[HFA.out];omega
   rw[←HFA.out]at d0 h1;have h1':decide ((fa:Int)<(fa:Int))=false:=decide_eq_false h1;clear h1;go_wp2_with fail;clear d0 h1';go_loop [13] (fun jj=>∃j:Nat,ia≤j∧j≤ib∧jj=.int .i64 j) (fun jj=>ib - (intOf jj).toNat)
   case atStart=>exact⟨ia,Nat.le_refl _,by omega,rfl⟩
   case round =>
    obtain⟨j,hj1,hj2,rfl⟩:=hrel;by_cases hjl:j<ib
    ·have d0:=HRPw.out w HL.out.fr j (by omega)
     have hjI:(j:Int)<(n:Int):=by omega
     have h1:((P j:Nat):Int)<(tb:Int):=by have:=HX.out.mono _ _ hjl;rw[←HTB.out]at this;omega
     generalize P j=y at d0 h1;go_wp2;go_round
     case rel=>exact⟨j+1,by omega,by omega,by go_num⟩
     case measure=>simp[intOf];omega
    ·obtain rfl:j=ib:=by omega
     have HEN:=hid (ended_any q C L G ia j w (HPw.out w HL.out.fr) HG.out (by omega) (by rw[HQN.out];exact hrb) (by rw[HQN.out];omega));by_cases hjn:j<n
     all_goals (
      first
      | (have d0:=HRPw.out w HL.out.fr j hjn
         rw[←HTB.out]at d0
         have hjI:(j:Int)<(n:Int):=by omega
         have h1':decide ((tb:Int)<(tb:Int))=false:=decide_eq_false (by omega))
      | (have hjI:¬(j:Int)<(n:Int):=by omega
         have hjI2:decide ((j:Int)<(n:Int))=false:=decide_eq_false hjI)
      go_wp2_with fail
      refine HEN.out.mono ?_
      rintro e w1 ⟨vE,rfl,hoE,hfE⟩
      have hWw:=HL.out.fr.size
      have hww1:=hfE.size
      have HL1:=hid ((HL.out.fr0 hfE).mono (Nat.le_trans hU hww1))
      have HE1:=hid hoE
      clear hoE hfE HEN
      first | clear d0 hjI h1' | clear hjI hjI2
      obtain⟨gE,cE,hvE⟩:=owns_shape (by omega) HE1.out
      subst hvE
      obtain⟨aC,cC,hvC⟩:=owns_slice HL1.out.ownC
      rw[clst_len]at hvC
      subst hvC
      have m2:=obj_cell HL1.out.obj (i:=2) rfl
      go_wp2_with fail
      clear m2
      go_loopw [16,17] (fun vo kk wr=>∃(k m:Nat) (vC:Value),kk=.int .i64 k∧k≤c∧a≤m∧m≤b∧Hid (m=max a (min k b))∧Hid (LD WB wr w1.heap.size lb s base vC vL (clst P ri Ev W m) Ls hs)∧Hid (wr.ownsRow w1.heap.size 3 1 vo (m - a) (ints64 (evs ri Ev a (m - a))))∧Hid (wr.ownsRow w.heap.size 3 1 (.slice (some ⟨gE,0,none⟩) (j - ia) cE) (j - ia) (ints64 (enL q.K L q.base ia j (j - ia))))∧w1.heap.size≤wr.heap.size) (fun _ kk _=>c - (intOf kk).toNat)
      case atStart=>exact⟨0,a,_,rfl,Nat.zero_le _,Nat.le_refl _,by omega,hid (by omega),HL1,hid (by rw[Nat.sub_self];exact World.ownsRow_nil _ _ _ _),HE1,Nat.le_refl _⟩
      case round =>
       obtain⟨k,m,vC',rfl,hkc,ham,hmb,HM,HLr,HO,HE,hszr⟩:=hrel
       obtain⟨wk,hwk⟩:∃wk,wk=wr:=⟨_,rfl⟩
       subst hwk
       by_cases hkl:k<c
       ·skip
        as_aux_lemma =>
                  have d0:=HBw.out wk HLr.out.fr k (by omega)
                  rw[HBL.out k (by omega)]at d0
                  have hkI:(k:Int)+1<(c:Int)+1:=by omega
                  by_cases hka:k<a
                  ·have h1:((P (ri k):Nat):Int)<(fa:Int):=by
                    have:=HX.out.mono _ _ (HX.out.rim k a hka (by omega));rw[←HIA.out,←HFA.out]at this;omega
                   generalize P (ri k)=y at d0 h1
                   go_wp2
                   go_roundw
                   case rel=>exact⟨k+1,m,vC',by go_num,by omega,ham,hmb,hid (by have:=HM.out;omega),HLr,HO,HE,hszr⟩
                   case measure=>simp[intOf];omega
                  ·by_cases hkb:k<b
                   ·have hmk:m=k:=by have:=HM.out;omega
                    subst hmk
                    have d1:=HBw.out wk HLr.out.fr (m+1) (by omega)
                    rw[HBL.out (m+1) (by omega)]at d1
                    have hrk:ri m<ri (m+1):=HX.out.rim m (m+1) (by omega) (by omega)
                    have hrka:ia≤ri m:=by
                     rcases Nat.lt_or_eq_of_le ham with h | h
                     ·have:=HX.out.rim a m h (by omega);rw[HIA.out];omega
                     ·rw[HIA.out,h];exact Nat.le_refl _
                    have hrkb:ri (m+1)≤j:=by
                     rcases Nat.lt_or_eq_of_le (show m+1≤b by omega)with h | h
                     ·have:=HX.out.rim (m+1) b h (by omega);rw[HIB.out];omega
                     ·rw[HIB.out,h];exact Nat.le_refl _
                    have HCO:=hid (clst_snoc P ri Ev W m)
                    have HCV:=hid (show clOf P ri Ev W m=(((P (ri m):Nat):Int),((P (ri (m+1)):Nat):Int),Ev (ri m),wid W (ri m) (ri (m+1)))from rfl)
                    have HVS:=hid (show evs ri Ev a (m+1 - a)=evs ri Ev a (m - a)++[Ev (ri m)] by
                     rw[show m+1 - a=(m - a)+1 by omega,evs_snoc,show a+(m - a)=m by omega])
                    have HPk:=hid (fun x (h:x<ri m)=>HX.out.mono x (ri m) h)
                    have HPk1:=hid (fun x (h:x<ri (m+1))=>HX.out.mono x (ri (m+1)) h)
                    have HPk':=hid (fun x (h:ri m<x)=>HX.out.mono (ri m) x h)
                    have HPk1':=hid (fun x (h:ri (m+1)<x)=>HX.out.mono (ri (m+1)) x h)
                    obtain⟨e0,he0⟩:∃e0,e0=P (ri m):=⟨_,rfl⟩
                    obtain⟨e1,he1⟩:∃e1,e1=P (ri (m+1)):=⟨_,rfl⟩
                    have hfe:fa≤e0:=by
                     rcases Nat.lt_or_eq_of_le hrka with h | h
                     ·have:=HPk.out ia h;rw[←HFA.out]at this;omega
                     ·rw[he0,←h,←HFA.out];exact Nat.le_refl _
                    have hte:e0<tb:=by have:=HX.out.mono (ri m) j (by omega);rw[←HTB.out]at this;omega
                    rw[←he0]at d0 HCV HPk HPk'
                    rw[←he1]at d1 HCV HPk1 HPk1'
                    have HE0:=hid he0
                    have HE1':=hid he1
                    clear he0 he1
                    generalize hr0:ri m=r0 at *
                    generalize hr1:ri (m+1)=r1 at *
                    clear hr0 hr1
                    have h1:¬(e0:Int)<(fa:Int):=by omega
                    have h2:¬(tb:Int)≤(e0:Int):=by omega
                    have h2':decide ((tb:Int)≤(e0:Int))=false:=decide_eq_false h2
                    have hgB:gB<wk.heap.size:=World.block_lt_of_cell? _ _ d0
                    have hmI:(m:Int)<(c:Int)+1:=by omega
                    have hmI1:(m:Int)+1<(c:Int)+1:=by omega
                    go_wp2_with fail
                    go_region
                    have HC0:=hid (show(wk.alloc (.cells #[.int .i64 (e0:Nat),.int .i64 (e1:Nat),.int .i64 (-1),.int .i64 0] 48)).drew.heap[wk.heap.size]?=some (.cells #[.int .i64 (e0:Nat),.int .i64 (e1:Nat),.int .i64 (lvT Ev r0 ia),.int .i64 (wid W r0 (min (max ia r0) r1))] 48 (0,0)) by
                     rw[lvT,if_pos hrka,show min (max ia r0) r1=r0 by omega,wid_self];exact obj_new wk _)
                    have HF0:=hid (((Fr.refl [] wk).alloc (.cells #[.int .i64 (e0:Nat),.int .i64 (e1:Nat),.int .i64 (-1),.int .i64 0] 48)).drew)
                    clear d0 d1
                    go_wp2_with fail
                    go_loopw [19] (fun mm wx=>∃t:Nat,mm=.int .i64 t∧ia≤t∧t≤j∧Hid (Fr [] wk wx)∧Hid (wx.heap[wk.heap.size]?=some (.cells #[.int .i64 (e0:Nat),.int .i64 (e1:Nat),.int .i64 (lvT Ev r0 t),.int .i64 (wid W r0 (min (max t r0) r1))] 48 (0,0)))) (fun mm _=>j - (intOf mm).toNat)
                    case atStart=>exact⟨ia,rfl,Nat.le_refl _,by omega,HF0,HC0⟩
                    case round =>
                     obtain⟨t,rfl,hti,htj,HFx,HCx⟩:=hrel
                     have HLx:=hid (HLr.out.fr0 HFx.out)
                     have s0:=obj_cell HCx.out (i:=0) rfl
                     have s1:=obj_cell HCx.out (i:=1) rfl
                     have s2:=obj_cell HCx.out (i:=2) rfl
                     have s3:=obj_cell HCx.out (i:=3) rfl
                     by_cases htl:t<j
                     ·skip
                      as_aux_lemma =>
                       have p0:=(HPw.out wr HLx.out.fr).c0
                       rw[HQN.out]at p0
                       have p1:=HRPw.out wr HLx.out.fr t (by omega)
                       have p2:=HWw.out wr HLx.out.fr t (by omega)
                       have htI:(t:Int)<(j:Int):=by omega
                       have htn:(t:Int)<(n:Int):=by omega
                       by_cases ht0:t<r0
                       ·have h3:¬((e0:Nat):Int)≤((P t:Nat):Int):=by have:=HPk.out t ht0;omega
                        have h3':decide (((e0:Nat):Int)≤((P t:Nat):Int))=false:=decide_eq_false h3
                        have h3n:decide (e0≤P t)=false:=decide_eq_false (by omega)
                        generalize P t=y at p1 h3 h3' h3n
                        have HN1:=hid (show lvT Ev r0 (t+1)=lvT Ev r0 t∧min (max (t+1) r0) r1=min (max t r0) r1 from⟨by rw[lvT,lvT,if_pos (by omega),if_pos (by omega)],by omega⟩)
                        clear s1 s2 s3 p2
                        go_wp2_with fail
                        go_quiet (fail)
                        go_wp2
                        go_roundw
                        case rel=>exact⟨t+1,by go_num,by omega,by omega,hid (HFx.out.drewN _),hid (by rw[HN1.out.1,HN1.out.2];exact HCx.out)⟩
                        case measure=>simp[intOf];omega
                       ·by_cases ht1:t<r1
                        ·have h3:((e0:Nat):Int)≤((P t:Nat):Int):=by
                             rcases Nat.lt_or_eq_of_le (Nat.le_of_not_lt ht0)with h | h
                             ·have:=HPk'.out t h;omega
                             ·rw[←h,←HE0.out];omega
                         have h4:((P t:Nat):Int)<((e1:Nat):Int):=by have:=HPk1.out t ht1;omega
                         have h3n:e0≤P t:=by omega
                         have h4n:P t<e1:=by omega
                         have hwid:=wid_bound W 1073741824 HX.out.wb r0 (min (max t r0) r1 - r0)
                         have hwt:=HX.out.wb t
                         have HN2:=hid (show wid W r0 (min (max (t+1) r0) r1)=wid W r0 (min (max t r0) r1)+nth W t by
                             rw[show min (max (t+1) r0) r1=t+1 by omega,show min (max t r0) r1=t by omega,wid_succ W (by omega)])
                         have hwd:0≤wid W r0 (min (max t r0) r1)∧wid W r0 (min (max t r0) r1)≤1000000000000:=by
                             have h5:((min (max t r0) r1 - r0:Nat):Int)≤400:=by omega
                             have h6:=hwid.2
                             have h7:((min (max t r0) r1 - r0:Nat):Int) * 1073741824≤400 * 1073741824:=Int.mul_le_mul_of_nonneg_right h5 (by omega)
                             exact⟨hwid.1,by rw[wid];omega⟩
                         obtain⟨hwd0,hwd1⟩:=hwd
                         obtain⟨hwt0,hwt1⟩:=hwt
                         have f2:=obj_froz HCx.out 2
                         have f3:=obj_froz HCx.out 3
                         have hgW:gW<wk.heap.size:=by
                             have h:=World.block_lt_of_cell? _ _ (HWw.out wk HLr.out.fr 0 (by omega));exact h
                         have hgWn:gW≠wk.heap.size:=by omega
                         clear hwid
                         generalize wid W r0 (min (max t r0) r1)=wd at *
                         generalize nth W t=wt at *
                         generalize P t=y at *
                         by_cases hte0:t=r0
                         ·have lv1:lvT Ev r0 t=-1:=by rw[lvT,if_pos (by omega)]
                          rw[lv1]at s2
                          have HN1:=hid (show lvT Ev r0 (t+1)=Ev t by rw[lvT,if_neg (by omega),hte0])
                          have le:=(owns_fr0 HE.out HFx.out).cellAt (t - ia) (by omega)
                          rw[ints64_at (by simp[enL];omega)]at le
                          have hle:nth (enL q.K L q.base ia j (j - ia)) (t - ia)=Ev t:=by
                           have h5:t - ia<j - ia:=by omega
                           rw[←HEV.out t hti htl]
                           simp only[enL,nth,List.getElem?_map,List.getElem?_range h5,Option.map_some,Option.getD_some]
                           rw[show ia+(t - ia)=t by omega]
                          rw[hle]at le
                          have hwr:IntKind.i64.wrap ((t:Int) - (ia:Int))=((t - ia:Nat):Int):=by rw[IntKind.wrap_i64];omega
                          have htia:(t:Int) - (ia:Int)=((t - ia:Nat):Int):=by omega
                          have htiaI:((t - ia:Nat):Int)<((j - ia:Nat):Int):=by omega
                          have hgE:gE≠wk.heap.size:=by have:=(owns_at HE.out).2;omega
                          generalize Ev t=lvv at *
                          have HT0:=hid hte0
                          clear lv1 hle hte0
                          go_wp2_with fail
                          go_quiet (fail)
                          go_wp2_with fail
                          go_region
                          go_wp2
                          go_roundw
                          case rel =>
                           refine⟨t+1,by go_num,by omega,by omega,?_,?_⟩
                           ·exact hid ((((HFx.out.drewN _).set_new (Nat.le_refl _)).drew).set_new (Nat.le_refl _))
                           ·rw[HN1.out,HN2.out]
                            exact hid (obj_set (obj_set HCx.out 2 (.int .i64 lvv)) 3 (.int .i64 (wd+wt)))
                          case measure=>simp[intOf];omega
                         ·have hr0t:r0<t:=by omega
                          have lv1:lvT Ev r0 t=Ev r0:=by rw[lvT,if_neg (by omega)]
                          rw[lv1]at s2
                          have hev:=(HX.out.ev r0).1
                          have HN1:=hid (show lvT Ev r0 (t+1)=lvT Ev r0 t by rw[lvT,lvT,if_neg (by omega),if_neg (by omega)])
                          generalize Ev r0=lvv at *
                          have hev2:¬lvv<0:=by omega
                          clear lv1
                          go_wp2_with fail
                          go_quiet (fail)
                          go_wp2_with fail
                          go_region
                          go_wp2
                          go_roundw
                          case rel =>
                           refine⟨t+1,by go_num,by omega,by omega,?_,?_⟩
                           ·exact hid (((HFx.out.drewN _).drew).set_new (Nat.le_refl _))
                           ·rw[HN1.out,HN2.out]
                            exact hid (obj_set HCx.out 3 (.int .i64 (wd+wt)))
                          case measure=>simp[intOf];omega
                        ·have h3:((e0:Nat):Int)≤((P t:Nat):Int):=by have:=HPk'.out t (by omega);omega
                         have h4:¬((P t:Nat):Int)<((e1:Nat):Int):=by
                             rcases Nat.lt_or_eq_of_le (Nat.le_of_not_lt ht1)with h | h
                             ·have:=HPk1'.out t h;omega
                             ·rw[←h,←HE1'.out];omega
                         have h4':decide (((P t:Nat):Int)<((e1:Nat):Int))=false:=decide_eq_false h4
                         have h4n:decide (P t<e1)=false:=decide_eq_false (by omega)
                         generalize P t=y at p1 h3 h4 h4' h4n
                         have HN1:=hid (show lvT Ev r0 (t+1)=lvT Ev r0 t∧min (max (t+1) r0) r1=min (max t r0) r1 from⟨by rw[lvT,lvT,if_neg (by omega),if_neg (by omega)],by omega⟩)
                         clear s2 s3 p2
                         go_wp2_with fail
                         go_quiet (fail)
                         go_wp2
                         go_roundw
                         case rel=>exact⟨t+1,by go_num,by omega,by omega,hid (HFx.out.drewN _),hid (by rw[HN1.out.1,HN1.out.2];exact HCx.out)⟩
                         case measure=>simp[intOf];omega
                     ·obtain rfl:t=j:=by omega
                      have hv1:lvT Ev r0 t=Ev r0:=by rw[lvT,if_neg (by omega)]
                      have hv2:min (max t r0) r1=r1:=by omega
                      rw[hv1]at s2
                      rw[hv2]at s3
                      have HCz:=hid (show wr.heap[wk.heap.size]?=some (.cells #[.int .i64 (e0:Nat),.int .i64 (e1:Nat),.int .i64 (Ev r0),.int .i64 (wid W r0 r1)] 48 (0,0)) by have h:=HCx.out;rw[hv1,hv2]at h;exact h)
                      obtain⟨lvv,hlvv⟩:∃lvv,lvv=Ev r0:=⟨_,rfl⟩
                      obtain⟨wdd,hwdd⟩:∃wdd,wdd=wid W r0 r1:=⟨_,rfl⟩
                      rw[←hlvv]at s2 HCz HCV HVS
                      rw[←hwdd]at s3 HCz HCV
                      obtain⟨aC,nC,cC',hvC,hnC⟩:∃aC nC cC',vC'=.slice aC nC cC'∧nC=m:=by
                       obtain⟨aC,cC',h⟩:=owns_slice HLr.out.ownC
                       rw[clst_len]at h
                       exact⟨aC,m,cC',h,rfl⟩
                      subst hvC
                      have HNC:=hid hnC
                      have l2:=obj_cell HLx.out.obj (i:=2) rfl
                      have lf2:=obj_froz HLx.out.obj 2
                      have hlbw:=obj_lt HLx.out.obj
                      have hlbn:lb≠wr.heap.size:=by omega
                      have hNL:=hid (show nC=(clst P ri Ev W m).length by rw[clst_len];exact hnC)
                      have hnM:nC≤400:=by rw[hnC];omega
                      have hsz1:=HLx.out.fr.size
                      have HCC:=hid (HLx.out.ownC)
                      rw[←hNL.out]at HCC
                      clear hnC hv1 hv2 hlvv hwdd
                      go_wp2_with fail
                      go_region_law (refine step_app rfl (.tmp 158) (.tmp 160) 41 rfl WB.heap.size 48 i48 _ 4 32 Tryz.underlying41 hi48 hy0 hy1 hy2 rfl (by decide) (.slice aC nC cC') nC (clCells (clst P ri Ev W m)) ?q1 ?q2 ⟨wr.heap.size,0,none⟩ 1 1 [.int .i64 (e0:Nat),.int .i64 (e1:Nat),.int .i64 lvv,.int .i64 wdd] ?q3 rfl ?q4 (four_one _ _ _ _) (by unfold maxLen;omega) (by omega) ?q5 ?_;(case q1=>simp[Act.eval]);(case q2=>exact owns_fr0 HCC.out (((Fr.refl [] wr).drew).alloc _));(case q3=>simp[Act.eval]);(case q4=>exact news_at _ _ _ _ (by simp));(case q5=>simp;omega);intro v' w' hown hgrow;obtain⟨g',c',hv'⟩:=owns_shape (by omega) hown;subst hv';have HXX:=hid (HLx.out.push hNL.out (((Fr.refl [] wr).drew).alloc _) hown hgrow);have g1:=obj_cell HXX.out.1 (i:=2) rfl;have g2:=obj_froz HXX.out.1 2;have hgz:=hid hgrow;clear hown hgrow)
                      all_goals (
                       have hkC:wk.heap.size<wr.heap.size:=obj_lt HCz.out
                       have hz1:w'.heap[wk.heap.size]?=some (.cells #[.int .i64 (e0:Nat),.int .i64 (e1:Nat),.int .i64 lvv,.int .i64 wdd] 48 (0,0)):=by
                        rw[hgz.out.block _ (by simp;omega) (fun e=>by have h5:=(HLr.out.ownC.lt _ e.symm).2;exact Nat.lt_irrefl _ h5)]
                        exact obj_fr HCz.out (((Fr.refl [] wr).drew).alloc _) List.not_mem_nil
                       have hlbW:=HLr.out.lt
                       have hWBk:=HLr.out.fr.size
                       have z2:(w'.setCell ⟨lb,2,none⟩ (.slice (some ⟨g',0,none⟩) (nC+1) c')).cell? ⟨wk.heap.size,2,none⟩=some (.int .i64 lvv):=by
                        have hne5:(⟨wk.heap.size,2,none⟩:Addr)≠⟨lb,2,none⟩:=fun e=>by have h5:=congrArg Addr.block e;dsimp only at h5;omega
                        first | rw[World.cell?_setCell_other _ _ _ _ hne5] | rw[World.cell?_setCell_other _ _ _ _ hne5.symm]
                        exact obj_cell hz1 rfl
                       obtain⟨W2,hW2⟩:∃W2,W2=w'.setCell ⟨lb,2,none⟩ (.slice (some ⟨g',0,none⟩) (nC+1) c'):=⟨_,rfl⟩
                       have HL2:=hid HXX.out.2.1
                       have HO2:=hid (HXX.out.2.2 _ 3 _ _ _ (.inl rfl) (owns_fr0 (owns_fr0 HO.out HFx.out) (((Fr.refl [] wr).drew).alloc _)))
                       have HE2:=hid (HXX.out.2.2 _ 3 _ _ _ (.inl rfl) (owns_fr0 (owns_fr0 HE.out HFx.out) (((Fr.refl [] wr).drew).alloc _)))
                       rw[←hW2]at z2 HL2 HO2 HE2 ⊢
                       have hsz2:w1.heap.size≤W2.heap.size:=by
                        rw[hW2];have h1:=hgz.out.size;simp at h1 ⊢;omega
                       clear hW2 hz1 hlbW hWBk HXX hgz g1 g2 s0 s1 s2 s3 l2 lf2
                       go_wp2_with (at_builtin;refine wpList_append_own _ rfl _ _ 22 rfl w1.heap.size 3 i3 _ 1 8 Tryz.underlying22 hi3 hz30 hz31 hz32 rfl (by decide) _ (m - a) (ints64 (evs ri Ev a (m - a))) rfl ?own _ 1 1 [.int .i64 lvv] rfl rfl (news_at _ _ _ _ (by simp)) (one_cell _) (by unfold maxLen;omega) (by omega) ?szz ?_)
                       case own=>exact HO2.out.alloc _
                       case szz=>simp;omega
                       intro v4 w4 own4 hgrow hnil
                       have HL4:=hid ((HL2.out.fr0 ((Fr.refl [] W2).alloc _)).grow hgrow (by omega) (fun g hg=>⟨(HO2.out.lt g hg).1,by
                        obtain⟨cs,t',f,h5,h6⟩:=owns_type (HO2.out.alloc (.cells #[.int .i64 lvv] 3)) hg
                        exact⟨cs,t',f,h5,.inl h6⟩⟩))
                       have HE4:=hid (owns_grown (HE2.out.alloc _) hgrow (fun g hg e=>by have h5:=(HO2.out.lt _ e.symm).1;have h6:=(owns_at HE1.out).2;cases hg;exact absurd h6 (Nat.not_lt.2 h5)))
                       have HO4:=hid (show w4.ownsRow w1.heap.size 3 1 v4 (m+1 - a) (ints64 (evs ri Ev a (m+1 - a))) by rw[HVS.out,←ints64_snoc,show m+1 - a=(m - a)+1 by omega];exact own4)
                       have hsz4:w1.heap.size≤w4.heap.size:=by have h1:=hgrow.size;simp at h1;omega
                       clear own4 hgrow hnil
                       go_wp2
                       go_roundw
                       case rel=>exact⟨m+1,m+1,_,by go_num,by omega,by omega,by omega,hid (by omega),hid (by rw[HCO.out,HCV.out];exact HL4.out),HO4,HE4,hsz4⟩
                       case measure=>simp[intOf];omega)
                   ·have h1:¬((P (ri k):Nat):Int)<(fa:Int)∧(tb:Int)≤((P (ri k):Nat):Int):=by
                     rcases Nat.lt_or_eq_of_le (Nat.le_of_not_lt hkb)with h | h
                     ·have:=HX.out.mono _ _ (HX.out.rim b k h (by omega));rw[←HIB.out,←HTB.out]at this;omega
                     ·rw[←h,←HIB.out,←HTB.out];omega
                    obtain⟨h1,h2⟩:=h1
                    generalize P (ri k)=y at d0 h1 h2
                    go_wp2
                    go_roundw
                    case rel=>exact⟨k+1,m,vC',by go_num,by omega,ham,hmb,hid (by have:=HM.out;omega),HLr,HO,HE,hszr⟩
                    case measure=>simp[intOf];omega
       ·have hmb':m=b:=by have:=HM.out;omega
        subst hmb'
        obtain rfl:k=c:=by omega
        obtain⟨N,hN⟩:∃N,N=m - a:=⟨_,rfl⟩
        rw[←hN]at HO
        have hN0:0<N:=by omega
        have hN4:N≤400:=by omega
        obtain⟨gO,cO,hvo⟩:=owns_shape hN0 HO.out
        subst hvo
        have HVb:=hid (fun i=>show 0≤nth (evs ri Ev a N) i∧nth (evs ri Ev a N) i≤1000 by
                  by_cases h:i<N
                  ·have h5:=HX.out.ev (ri (a+i));rw[evs_at h];omega
                  ·rw[nth,List.getElem?_eq_none (by simp[evs];omega)];decide)
        have HOR:=hid (ord_any (evs ri Ev a N) N gO cO wk hN0 (by omega) (fun i hi=>by rw[HO.out.cellAt i (by omega),ints64_at (by simp[evs];exact hi)]) HVb.out)
        obtain⟨od,hod⟩:∃od,od=ordD (nth (evs ri Ev a N)) N:=⟨_,rfl⟩
        rw[←hod]at HOR
        have HOD:=hid (show od=ordD (fun t=>Ev (ri (a+t))) N by rw[hod];exact ordD_congr (fun t ht=>evs_at ht))
        have HLN:=hid (show lnOf P ri Ev W a m=⟨((P (ri a):Nat):Int),((P (ri m):Nat):Int),od.map (fun t=>t+a),xs (fun k=>wid W (ri k) (ri (k+1))) (od.map (fun t=>t+a)) N⟩ by rw[lnOf,HOD.out,←hN])
        have hodl:od.length=N:=by rw[hod,ordD_len]
        have hodt:∀t,t<N→nix od t<N:=fun t ht=>by rw[hod];exact ordD_lt _ _ _ (nix_mem (by rw[ordD_len];exact ht))
        have HODL:=hid hodl
        have HODT:=hid hodt
        have HNN:=hid hN
        have hNa:N+a≤m:=by omega
        clear hod hodl hodt hN HOD HVb HM
        go_wp2_with fail
        refine HOR.out.mono ?_
        rintro e w5 ⟨go,co,rfl,hoO,hfO⟩
        have HL5:=hid (HLr.out.fr0 hfO)
        have HO5:=hid hoO
        have hsz5:=hfO.size
        have hgo5:=owns_at hoO
        obtain⟨gC,cC',hvC⟩:=owns_shape (by rw[clst_len];omega) HL5.out.ownC
        rw[clst_len]at hvC
        subst hvC
        clear hoO hfO HOR HE HO
        have HWB:=hid (fun k' (hk':k'<k)=>show 0≤wid W (ri k') (ri (k'+1))∧wid W (ri k') (ri (k'+1))≤429496729600 by
                  have h1:=wid_bound W 1073741824 HX.out.wb (ri k') (ri (k'+1) - ri k')
                  have h2:ri (k'+1)≤n:=by
                   rcases Nat.lt_or_eq_of_le (show k'+1≤k by omega)with h | h
                   ·have:=HX.out.rim (k'+1) k h (Nat.le_refl _);rw[HX.out.ric]at this;omega
                   ·rw[h,HX.out.ric];exact Nat.le_refl _
                  have h3:((ri (k'+1) - ri k':Nat):Int) * 1073741824≤400 * 1073741824:=Int.mul_le_mul_of_nonneg_right (by omega) (by omega)
                  rw[wid];exact⟨h1.1,by omega⟩)
        obtain⟨f,hf⟩:∃f,f=fun k=>wid W (ri k) (ri (k+1)):=⟨_,rfl⟩
        rw[←hf]at HLN
        have HFF:=hid (fun k'=>show f k'=wid W (ri k') (ri (k'+1)) by rw[hf])
        obtain⟨O,hO⟩:∃O,O=od.map (fun t=>t+a):=⟨_,rfl⟩
        rw[←hO]at HLN
        have HOO:=hid hO
        have HOL:=hid (show O.length=N by rw[hO,List.length_map];exact HODL.out)
        have HON:=hid (fun t (ht:t<N)=>show nix O t=nix od t+a by rw[hO];exact nix_map (by rw[HODL.out];exact ht))
        clear hf hO
        go_wp2_with fail
        go_loopw [21,22] (fun vx kk wr=>∃(t gx cx:Nat),kk=.int .i64 t∧vx=.slice (some ⟨gx,0,none⟩) (t+1) cx∧t≤N∧Hid (LD WB wr w1.heap.size lb s base (.slice (some ⟨gC,0,none⟩) m cC') vL (clst P ri Ev W m) Ls hs)∧Hid (wr.ownsRow wk.heap.size 3 1 (.slice (some ⟨go,0,none⟩) N co) N (intsN (O.take t++od.drop t)))∧Hid (wr.ownsRow w5.heap.size 2 1 (.slice (some ⟨gx,0,none⟩) (t+1) cx) (t+1) (ints64 (xs f O t)))∧w5.heap.size≤wr.heap.size) (fun _ kk _=>N - (intOf kk).toNat)
        case atStart=>exact⟨0,w5.heap.size,1,rfl,rfl,Nat.zero_le _,hid (HL5.out.fr0 ((Fr.refl [] w5).alloc _)),hid (by simpa using HO5.out.alloc _),hid (World.ownsRow_lit (base:=w5.heap.size) (e:=2) (size:=1) w5 #[.int .i64 0] 1 (Nat.le_refl _) (by decide) rfl),by simp⟩
        case round =>
                  obtain⟨t,gx,cx,rfl,rfl,htN,HLt,HOt,HXt,hszt⟩:=hrel
                  by_cases htl:t<N
                  ·skip
                   as_aux_lemma =>
                    have htI:(t:Int)<(N:Int):=by omega
                    have hTL:(O.take t++od.drop t).length=N:=by rw[List.length_append,List.length_take,List.length_drop,HOL.out,HODL.out];omega
                    have o0:=HOt.out.cellAt t (by omega)
                    rw[intsN_at (by omega),odT_at (by rw[HOL.out];omega)]at o0
                    have o1:=HOt.out.frozenAt t
                    have hxN:=HODT.out t htl
                    have HON1:=hid (HON.out t htl)
                    have HST:=hid (odT_step (O:=O) (od:=od) (by rw[HODL.out];exact htl) (by rw[HOL.out,HODL.out]) HON1.out)
                    have HXS:=hid (xs_snoc f O t)
                    have HSX:=hid (xs_at f O (Nat.le_refl t))
                    have hxb:=xsum_bound2 f 429496729600 O t (fun j hj=>by rw[HFF.out,HON.out j (by omega)];exact HWB.out _ (by have:=HODT.out j (by omega);omega))
                    have hwb:=HWB.out (nix od t+a) (by omega)
                    rw[←HFF.out,←HON1.out]at hwb
                    have hCa:=(clCells_at _ _ _ (clst_at P ri Ev W (m:=m) (k:=nix od t+a) (by omega))).2.2.2
                    have hxa:xsum f O t≤171798691840000:=by
                     have h5:(t:Int) * 429496729600≤400 * 429496729600:=Int.mul_le_mul_of_nonneg_right (by omega) (by omega)
                     omega
                    have hx0:=hxb.1
                    have x0:=HXt.out.cellAt t (by omega)
                    rw[ints64_at (by rw[xs_len];omega),xs_at f O (Nat.le_refl _)]at x0
                    obtain⟨hwb0,hwb1⟩:=hwb
                    have HWV:=hid (show(clOf P ri Ev W (nix od t+a)).2.2.2=f (nix O t) by rw[HFF.out,HON1.out];rfl)
                    rw[HWV.out]at hCa
                    have HCA:=hid hCa
                    clear hCa hxb
                    generalize xsum f O t=sx at *
                    generalize f (nix O t)=wd at *
                    obtain⟨x,hx⟩:∃x,x=nix od t:=⟨_,rfl⟩
                    rw[←hx]at o0 hxN HST HCA
                    clear hx
                    obtain⟨y,hy⟩:∃y,y=x+a:=⟨_,rfl⟩
                    rw[←hy]at HST HCA
                    have hym:y<m:=by omega
                    have hsum:(x:Int)+(a:Int)=(y:Int):=by omega
                    clear hy
                    go_wp2_with fail
                    obtain⟨W',hW'⟩:∃W',W'=wr.setCell ⟨go,t,none⟩ (.int .i64 ((y:Nat):Int)):=⟨_,rfl⟩
                    have hst:=HOt.out.stored t (.int .i64 ((y:Nat):Int))
                    have hgo1:=(owns_at HOt.out).1
                    rw[←hW']at hst ⊢
                    have HLW:=hid (HLt.out.grow hst.2 (by omega) (fun g hg=>by
                     cases hg
                     obtain⟨cs,t',f',h5,h6⟩:=owns_type HOt.out (g:=go) rfl
                     exact⟨by omega,cs,t',f',h5,.inl h6⟩))
                    have HOW:=hid (show W'.ownsRow wk.heap.size 3 1 (.slice (some ⟨go,0,none⟩) N co) N (intsN (O.take (t+1)++od.drop (t+1))) by rw[←HST.out,←intsN_set];exact hst.1)
                    have HXW:=hid (owns_kind HXt.out hst.2 (fun g hg=>by
                     cases hg
                     obtain⟨cs,t',f',h5,h6⟩:=owns_type HOt.out (g:=go) rfl
                     exact⟨cs,t',f',h5,by rw[h6];decide⟩))
                    have q1:=obj_cell HLW.out.obj (i:=2) rfl
                    have q2:W'.cell? ⟨go,t,none⟩=some (.int .i64 ((y:Nat):Int)):=by rw[hW'];exact World.cell?_setCell_same _ _ _ o0
                    have q3:W'.cell? ⟨gC,y * 4+3,none⟩=some (.int .i64 wd):=by
                     have h5:=HLW.out.ownC
                     rw[clst_len]at h5
                     rw[h5.cellAt _ (by omega)];exact HCA.out
                    have q4:W'.cell? ⟨gx,t,none⟩=some (.int .i64 sx):=by
                     rw[HXW.out.cellAt t (by omega),ints64_at (by rw[xs_len];omega),HSX.out]
                    have hszW:w5.heap.size≤W'.heap.size:=by rw[hW'];simpa using hszt
                    have hlbW:=obj_lt HLW.out.obj
                    have hgoW:=(owns_at HOW.out).2
                    have hgon:go≠gx:=owns_apart HOW.out HXW.out (by decide) rfl rfl
                    have hgCn:gC≠gx:=owns_apart HLW.out.ownC HXW.out (by decide) rfl rfl
                    have hgxl:=(owns_at HXW.out).1
                    have hlbl:=HLW.out.lt
                    have hgxW:=(owns_at HXW.out).2
                    have hgCW:=World.block_lt_of_cell? _ _ q3
                    have hxm:((y:Nat):Int)<(m:Int):=by omega
                    have htt:(t:Int)<(t:Int)+1:=by omega
                    have hsw:sx+wd≤1000000000000000:=by omega
                    clear hW' hst o0 o1 x0
                    dsimp only at hgCW
                    have HKP:=hid (fun(w1' w':World) (hf:Fr [] W' w1') (hg:w1'.grownBy w' (some gx)) (hk:∀j u,(ints64 (xs f O t))[j]?=some u→w'.cell? ⟨gx,j,none⟩=some u)=>show w'.cell? ⟨lb,2,none⟩=some (.slice (some ⟨gC,0,none⟩) m cC')∧w'.cell? ⟨go,t,none⟩=some (.int .i64 ((y:Nat):Int))∧w'.cell? ⟨gC,y * 4+3,none⟩=some (.int .i64 wd)∧w'.cell? ⟨gx,t,none⟩=some (.int .i64 sx)from
                     ⟨cell_grown hg (hf.cell q1 List.not_mem_nil) (by omega),cell_grown hg (hf.cell q2 List.not_mem_nil) hgon,cell_grown hg (hf.cell q3 List.not_mem_nil) hgCn,hk t _ (by rw[ints64_at (by rw[xs_len];omega),HSX.out])⟩)
                    have hwrp:IntKind.i64.wrap (sx+wd)=sx+wd:=by rw[IntKind.wrap_i64];omega
                    go_region_held_law (fun w'=>w'.cell? ⟨lb,2,none⟩=some (.slice (some ⟨gC,0,none⟩) m cC')∧w'.cell? ⟨go,t,none⟩=some (.int .i64 ((y:Nat):Int))∧w'.cell? ⟨gC,y * 4+3,none⟩=some (.int .i64 wd)∧w'.cell? ⟨gx,t,none⟩=some (.int .i64 sx)) (first | exact HS1 | go_keep) ((refine step_keep rfl (.tmp 187) (.tmp 204) 49 rfl w5.heap.size 2 i2 _ 1 8 Tryz.underlying49 hi2 hz20 hz21 hz22 rfl (by decide) gx (t+1) cx (ints64 (xs f O t)) ?q1 ?q2 ⟨W'.heap.size,0,none⟩ 1 1 [.int .i64 (sx+wd)] ?q3 rfl ?q4 (one_cell _) (by unfold maxLen;omega) (by omega) ?q5 ?_;(case q1=>first | rfl | simp[Act.eval]);(case q2=>exact owns_fr0 HXW.out (frA _ _));(case q3=>first | rfl | simp[Act.eval]);(case q4=>exact news_at _ _ _ _ (by simp));(case q5=>simp;omega);intro v' w' hown hgrow hkeep;obtain⟨g',c',hv'⟩:=owns_shape (by omega) hown;subst hv';have HG1:=hid hown;have HG2:=hid hgrow;have HS1:=HKP.out _ _ (frA _ _) hgrow hkeep;clear hown hgrow hkeep))
                    all_goals (
                     have HL9:=hid ((HLW.out.fr0 (frA W' (.cells #[.int .i64 (sx+wd)] 2))).grow HG2.out (by omega) (fun g hg=>by
                      cases hg
                      obtain⟨cs,t',f',h5,h6⟩:=owns_type (owns_fr0 HXW.out (frA W' (.cells #[.int .i64 (sx+wd)] 2))) (g:=gx) rfl
                      exact⟨by have:=(owns_at HXW.out).1;omega,cs,t',f',h5,.inr h6⟩))
                     have HO9:=hid (owns_kind (owns_fr0 HOW.out (frA W' (.cells #[.int .i64 (sx+wd)] 2))) HG2.out (fun g hg=>by
                      cases hg
                      obtain⟨cs,t',f',h5,h6⟩:=owns_type (owns_fr0 HXW.out (frA W' (.cells #[.int .i64 (sx+wd)] 2))) (g:=gx) rfl
                      exact⟨cs,t',f',h5,by rw[h6];decide⟩))
                     have hsz9:w5.heap.size≤w'.heap.size:=by have h5:=HG2.out.size;simp at h5;omega
                     go_wp2
                     go_roundw
                     case rel=>exact⟨t+1,g',c',by go_num,rfl,by omega,HL9,HO9,hid (by rw[HXS.out,←ints64_snoc];exact HG1.out),hsz9⟩
                     case measure=>simp[intOf];omega)
                  ·obtain rfl:t=N:=by omega
                   have HOF:=hid (show wr.ownsRow wk.heap.size 3 1 (.slice (some ⟨go,0,none⟩) t co) t (intsN O) by
                    have h:=HOt.out
                    rw[List.take_of_length_le (by rw[HOL.out];exact Nat.le_refl _),List.drop_of_length_le (by rw[HODL.out];exact Nat.le_refl _),List.append_nil]at h
                    exact h)
                   obtain⟨aL,cL,hvL⟩:=owns_slice HLt.out.ownL
                   subst hvL
                   have l3:=obj_cell HLt.out.obj (i:=3) rfl
                   have lf3:=obj_froz HLt.out.obj 3
                   obtain⟨nL,hnL⟩:∃nL,nL=Ls.length:=⟨_,rfl⟩
                   have HLL:=hid HLt.out.ownL
                   rw[←hnL]at l3 HLL hLl
                   have HNL:=hid hnL
                   have hsz1:=HLt.out.fr.size
                   have hlbt:=obj_lt HLt.out.obj
                   have hlbl:=HLt.out.lt
                   clear hnL
                   go_wp2_with (at_builtin;refine wpList_append_own _ rfl _ _ 43 rfl WB.heap.size 51 i51 _ 4 64 Tryz.underlying43 hi51 hx0 hx1 hx2 rfl (by decide) _ nL hs rfl ?own _ 1 1 [.int .i64 (fa:Nat),.int .i64 (tb:Nat),.slice (some ⟨go,0,none⟩) t co,.slice (some ⟨gx,0,none⟩) (t+1) cx] rfl rfl (news_at _ _ _ _ (by simp)) (line_one _ _ _ _ _ _ _ _) (by unfold maxLen;omega) (by omega) ?szz ?_)
                   case own=>exact HLL.out.alloc _
                   case szz=>simp;omega
                   intro v' w' hown hgrow hnil
                   obtain⟨g',c',hv'⟩:=owns_shape (by omega) hown
                   subst hv'
                   have hgrow2:=hgrow
                   rw[HNL.out]at hgrow2
                   have HXX:=hid (HLt.out.line ⟨((fa:Nat):Int),((tb:Nat):Int),O,xs f O t⟩ HNL.out ((Fr.refl [] wr).alloc _) (U':=w'.heap.size) (by have h5:=hgrow.size;simp at h5;omega) (by dsimp only;rw[HOL.out];exact owns_low HOF.out (by omega)) (by dsimp only;rw[xs_len];exact owns_low HXt.out (by omega)) (by have h5:=hgrow.size;simp at h5;omega) hown hgrow2)
                   have g1:=obj_cell HXX.out.1 (i:=3) rfl
                   have g2:=obj_froz HXX.out.1 3
                   rw[←HNL.out]at g1
                   clear hown hgrow hgrow2 hnil l3 lf3
                   go_wp2
                   go_end0
                   have h9:=HXX.out.2
                   have eL:lnOf P ri Ev W a m=⟨((fa:Nat):Int),((tb:Nat):Int),O,xs f O t⟩:=by rw[HLN.out,←HIA.out,←HFA.out,←HIB.out,←HTB.out]
                   have e9:∀(X:World) (v:Value),(X.setCell ⟨lb,3,none⟩ v).heap.size=X.heap.size:=fun X v=>by simp
                   rw[eL,e9]
                   exact⟨rfl,_,_,_,h9⟩)
end Go.Proofs.YtnakejhohdbfdaaGreatDoor

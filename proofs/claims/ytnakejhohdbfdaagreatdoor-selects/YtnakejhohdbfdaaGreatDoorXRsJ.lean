import Derived.Test.YtnakejhohdbfdaaGreatDoorXMd
import Derived.Test.YtnakejhohdbfdaaGreatDoorXRsI
import Derived.Test.YtnakejhohdbfdaaGreatDoorXMa
namespace Go.Proofs.YtnakejhohdbfdaaGreatDoor
open Go.RowKit Lev
def pcells:List (Nat × Nat)→List Value
 | []=>[]
 | p :: l=>.int .i64 (p.1:Nat) :: .int .i64 (p.2:Nat) :: pcells l
theorem pcells_len:∀l,(pcells l).length=l.length * 2
 | []=>rfl
 | p :: l=>by simp[pcells,pcells_len l];omega
theorem pcells_app:∀l m,pcells l++pcells m=pcells (l++m)
 | [],m=>rfl
 | p :: l,m=>by simp[pcells,pcells_app l m]
theorem pcells_take:∀l a,(pcells l).take (a * 2)=pcells (l.take a)
 | [],a=>by simp[pcells]
 | p :: l,0=>rfl
 | p :: l,a+1=>by rw[show(a+1) * 2=a * 2+1+1 by omega];simp[pcells,pcells_take l a]
theorem pcells_drop:∀l a,(pcells l).drop (a * 2)=pcells (l.drop a)
 | [],a=>by simp[pcells]
 | p :: l,0=>rfl
 | p :: l,a+1=>by rw[show(a+1) * 2=a * 2+1+1 by omega];simp[pcells,pcells_drop l a]
theorem pcells_at:∀(l:List (Nat × Nat)) (i:Nat),i<l.length→(pcells l)[i * 2]?=some (.int .i64 (((l[i]?).getD (0,0)).1:Nat))∧(pcells l)[i * 2+1]?=some (.int .i64 (((l[i]?).getD (0,0)).2:Nat))
 | [],_,h=>absurd h (by simp)
 | p :: l,0,_=>by simp[pcells]
 | p :: l,i+1,h=>by
   have:=pcells_at l i (by simp at h;omega);rw[show(i+1) * 2=i * 2+1+1 by omega];simpa[pcells] using this
theorem pcells_one:∀(l:List (Nat × Nat)),∀u∈pcells l,u.oneCell'=true
 | [],u,h=>by simp[pcells]at h
 | p :: l,u,h=>by
   simp only[pcells,List.mem_cons]at h
   rcases h with rfl | rfl | h
   ·rfl
   ·rfl
   ·exact pcells_one l u h
theorem prsAt_of {w:World}{B B':Nat}{v:Value}{ps:List (Nat × Nat)}(h:w.ownsRow B' 156 2 v ps.length (pcells ps))(hB:B≤B')(h0:ps.length=0→v=.slice none 0 0):prsAt w B v ps:=by
 refine⟨h0,fun hp=>?_⟩;obtain⟨g,cap,rfl⟩:=owns_shape hp h;refine⟨g,cap,rfl,Nat.le_trans hB (owns_at h).1,fun i hi=>?_⟩;obtain⟨a1,a2⟩:=pcells_at ps i hi;exact⟨by rw[h.cellAt _ (by omega),a1],by rw[h.cellAt _ (by omega),a2]⟩
theorem pair_one (a b:Int):∀u∈[Value.int .i64 a,.int .i64 b],u.oneCell'=true:=by
 intro u hu;simp at hu
 rcases hu with rfl | rfl <;> rfl
theorem owns_cap {w:World}{B g n cap size:Nat}{e:TypeId}{xs:List Value}(h:w.ownsRow B e size (.slice (some ⟨g,0,none⟩) n cap) n xs):n≤cap:=by
 rcases h.2 with⟨h0,_⟩ | ⟨g',cap',cur,hv,hg,hh,hn,_⟩
 ·cases h0
 ·cases hv;exact hn
theorem src_take {w:World}{B g n cap:Nat}{out:List (Nat × Nat)}(h:w.ownsRow B 156 2 (.slice (some ⟨g,0,none⟩) n cap) n (pcells out))(a:Nat):∀j u,(pcells (out.take a))[j]?=some u→w.cell? ((⟨g,0,none⟩:Addr).add j)=some u:=by
 intro j u hu;rw[←pcells_take,List.getElem?_take]at hu;split at hu
 ·exact h.cells rfl j u hu
 ·cases hu
theorem src_drop {w:World}{B g n cap:Nat}{out:List (Nat × Nat)}(h:w.ownsRow B 156 2 (.slice (some ⟨g,0,none⟩) n cap) n (pcells out))(a:Nat):∀j u,(pcells (out.drop a))[j]?=some u→w.cell? ((⟨g,a * 2,none⟩:Addr).add j)=some u:=by
 intro j u hu;rw[←pcells_drop,List.getElem?_drop]at hu;have:=h.cells rfl (a * 2+j) u hu;rw[Addr.add_lit]at this ⊢
 rwa [Nat.zero_add]at this
structure PW (W wr:World)(vst vout:Value)(st:List Nat)(out:List (Nat × Nat)):Prop where
 fr:Fr [] W wr
 os:wr.ownsRow W.heap.size 3 1 vst st.length (intsN st)
 oo:wr.ownsRow W.heap.size 156 2 vout out.length (pcells out)
 nl:out.length=0→vout=.slice none 0 0
theorem PW.fr0 {W wr w':World}{vst vout:Value}{st:List Nat}{out:List (Nat × Nat)}(h:PW W wr vst vout st out)(hf:Fr [] wr w'):PW W w' vst vout st out :=
 ⟨h.fr.trans hf,owns_fr0 h.os hf,owns_fr0 h.oo hf,h.nl⟩
theorem PW.push {W wr w1 w':World}{vst vout v':Value}{st:List Nat}{out:List (Nat × Nat)}{k:Nat}(h:PW W wr vst vout st out)(hf:Fr [] wr w1)(ho:w'.ownsRow W.heap.size 3 1 v' (st.length+1) (intsN st++[.int .i64 (k:Nat)]))(hg:w1.grownBy w' vst.ownBlock):PW W w' v' vout (st++[k]) out:=by
 have h1:=h.fr0 hf;refine⟨h1.fr.grown hg (fun x hx=>(h1.os.lt x hx).1),?_,owns_grown h1.oo hg (fun g hg' e=>?_),h.nl⟩
 ·rw[←intsN_snoc,List.length_append];exact ho
 ·exact owns_apart h1.oo h1.os (by decide) hg' e.symm rfl
theorem PW.ins {W wr w3:World}{g1 c1 n no t a x k:Nat}{vout v3:Value}{st:List Nat}{out:List (Nat × Nat)}(h:PW W wr (.slice (some ⟨g1,0,none⟩) n c1) vout st out)(hn:n=st.length)(hno:no=out.length)(hf:Fr [] wr w3)(ht:t≤n)(ha:a≤no)
 (ho:w3.ownsRow wr.heap.size 156 2 v3 (a+1+(no - a)) (pcells (out.take a)++.int .i64 (x:Nat) :: .int .i64 (k:Nat) :: pcells (out.drop a))) (hp:insP (x,k) out=out.take a++(x,k) :: out.drop a):PW W w3 (.slice (some ⟨g1,0,none⟩) t c1) v3 (st.take t) (insP (x,k) out):=by
 have h1:=h.fr0 hf;have hl:(insP (x,k) out).length=a+1+(no - a):=by rw[len_insP];omega
 refine⟨h1.fr,?_,?_,fun h0=>by omega⟩
 ·have hos:=h1.os
  rw[←hn]at hos;have:=ownsRow_take hos ht;rw[intsN_take]at this;rw[List.length_take,←hn,Nat.min_eq_left ht];exact this
 ·rw[hl,hp,←pcells_app]
  exact owns_low ho h.fr.size
theorem PW.shape {W wr:World}{vst vout:Value}{st:List Nat}{out:List (Nat × Nat)}(h:PW W wr vst vout st out) :
 ∃a1 c1 a2 c2,vst=.slice a1 st.length c1∧vout=.slice a2 out.length c2:=by
 obtain⟨a1,c1,e1⟩:=owns_slice h.os;obtain⟨a2,c2,e2⟩:=owns_slice h.oo;exact⟨a1,c1,a2,c2,e1,e2⟩
set_option linter.unusedSimpArgs false in
set_option maxRecDepth 10000 in
set_option maxHeartbeats 8000000 in
theorem ref39_any (q:PH)(C L:List Int)(G:List Bool)(bI cI:Nat)(s:Sq)(w:World)(hs:PS w q C L G)(hI:IS w q bI s.I)(h0:0<s.I.length) :
 Calls Tryz.prog 91 #[.pointer (some ⟨q.p,0,none⟩),sqV bI cI s] w fun e w'=>∃v,e=.returned v∧prsAt w' w.heap.size v (pairsTo q.R s.I C s.I.length).out∧Fr [] w w':=by
 have sm:=hI.sm;obtain⟨Z,hZ⟩:∃Z,Z=(pairsTo q.R s.I C s.I.length).out:=⟨_,rfl⟩;have HZ:=hid hZ;rw[←hZ];obtain⟨m,hm⟩:∃m,m=s.I.length:=⟨_,rfl⟩;have HM:=hid hm;have HV:=hid (show sqV bI cI s=.agg #[.slice (some ⟨bI,0,none⟩) m cI,.int .i64 s.own,.int .i64 s.bef,.int .i64 s.aft] by rw[hm]);rw[HV.out];rw[←hm]at sm h0;obtain⟨i0,hi,hz0,hz1,hz2⟩:=info_parts info3;obtain⟨i1,hi1,hy0,hy1,hy2⟩:=info_parts info145;obtain⟨W,hW⟩:∃W,W=w.alloc (.cells #[.slice (some ⟨bI,0,none⟩) m cI,.int .i64 s.own,.int .i64 s.bef,.int .i64 s.aft] 101):=⟨_,rfl⟩;have HFW:=hid (show Fr [] w W by rw[hW];exact(Fr.refl _ w).alloc _);have HPS:=hid (show PS W q C L G by rw[hW];exact hs.alloc _);have HIS:=hid (show IS W q bI s.I by rw[hW];exact hI.fr (S:=[]) ((Fr.refl _ w).alloc _) List.not_mem_nil);have HBX:=hid (show boxAt W w.heap.size bI m cI s.own s.bef s.aft by rw[hW];exact fun j v hv=>by rw[World.cell?_alloc_at _ _ _ _ rfl];exact hv);have HWS:=hid (show W.heap.size=w.heap.size+1 by rw[hW];simp);have HW:=hid hW
 have HPW0:=hid (show PW W W (.slice none 0 0) (.slice none 0 0) [] []from
  ⟨Fr.refl _ _,World.ownsRow_nil _ _ _ _,World.ownsRow_nil _ _ _ _,fun _=>rfl⟩)
 have hlp:=hs.lt;clear hm hZ hs hI HV hW;go_enter Tryz.func91,Tryz.ntmps91;go_wp2;go_loopw [5,6,7] (fun vst vout kk wr=>∃(k:Nat),kk=.int .i64 k∧k≤m∧Hid ((pairsTo q.R s.I C k).stop=false)∧Hid (PW W wr vst vout (pairsTo q.R s.I C k).st (pairsTo q.R s.I C k).out)) (fun _ _ kk _=>m - (intOf kk).toNat)
 case atStart=>exact⟨0,rfl,Nat.zero_le _,hid rfl,by rw[←HW.out];exact HPW0⟩
 case round =>
  obtain⟨k,rfl,hk,HST,HP⟩:=hrel;have hinv:=prs_inv q.R s.I C k;have HPS1:=hid (HPS.out.fr0 HP.out.fr);have HIS1:=hid (HIS.out.fr HP.out.fr List.not_mem_nil);have HBX1:=hid (HBX.out.fr HP.out.fr List.not_mem_nil);have x0:=HBX1.out 0 _ rfl;have d2:=HPS1.out.c2;have d0:=HPS1.out.c0;have hsz:=HP.out.fr.size;by_cases hkm:k<m
  ·obtain⟨hi',e1,e2,e3,e4⟩:=at_k HPS1.out HIS1.out (Fr.refl _ _) (show k<s.I.length by rw[←HM.out];omega)
   have e5:=HPS1.out.rR _ hi';have HFA:=hid (pair_facts q.R s.I C k (pairsTo q.R s.I C k) HST.out);have HNX:=hid (show pairsTo q.R s.I C (k+1)=pairStep q.R s.I C k (pairsTo q.R s.I C k)from rfl);rw[←HNX.out]at HFA;have HINV:=hid hinv;have hst8:=hinv.ln8;have hol:=hinv.len;clear hinv e3 e4 HNX;generalize pairsTo q.R s.I C k=P at *;obtain⟨a1,c1,a2,c2,hv1,hv2⟩:=HP.out.shape;dsimp only[cl]at HFA;generalize nix s.I k=i at *;generalize nth C i=y at *;generalize nth q.R i=r at *;by_cases hy13:y=13
   ·subst hy13
    cases hop:opens r
    ·rw[hop]at HFA
     have HO78:Hid (∀w,Calls Tryz.prog 160 #[.int .i32 r] w fun e w'=>e=.returned (.int .i32 0)∧w'=w):=hid (fun w=>by have:=ref78_any r w;rw[hop]at this;simpa using this);have HC79:Hid (∀w,Calls Tryz.prog 161 #[.int .i32 r] w fun e w'=>e=.returned (.int .i32 (shuts r))∧w'=w):=hid (fun w=>ref79_any r w);clear hop;generalize shuts r=c at *;by_cases hc0:c=0
     ·subst hc0
      have HN:=hid (HFA.out.2.2.2.1 rfl rfl rfl);clear hv1 hv2;go_wp2;go_quiet (fail);go_wp2;go_quiet (fail);go_wp2_with (first | (go_at_call 160;refine(HO78.out _).mono ?_;rintro e w' ⟨rfl,rfl⟩) | (go_at_call 161;refine(HC79.out _).mono ?_;rintro e w' ⟨rfl,rfl⟩));go_roundw
      case rel=>exact⟨k+1,by go_num,by omega,hid (by rw[HN.out];exact HST.out),hid (by rw[HN.out];exact HP.out.fr0 (frz _ _ _ rfl rfl rfl rfl))⟩
      case measure=>simp[intOf];omega
     ·obtain⟨n,hn⟩:∃n,n=P.st.length:=⟨_,rfl⟩
      rw[←hn]at hv1 hst8;have HNN:=hid hn;have hsx:=HINV.out.st;have HSX:=hid hsx;clear hn hsx;obtain⟨no,hno⟩:∃no,no=P.out.length:=⟨_,rfl⟩;rw[←hno]at hv2 hol;have HNO:=hid hno;subst hv1;subst hv2;clear hno;have HF0:=hid (HFA.out.2.2.2.2.1 rfl rfl hc0);have HF1:=hid (fun j=>HFA.out.2.2.2.2.2 j rfl rfl hc0);clear HFA;go_wp2;go_quiet (fail);go_wp2;go_quiet (fail);go_wp2_with (first | (go_at_call 160;refine(HO78.out _).mono ?_;rintro e w' ⟨rfl,rfl⟩) | (go_at_call 161;refine(HC79.out _).mono ?_;rintro e w' ⟨rfl,rfl⟩));clear x0 d2 d0 e1 e2 e5;go_loopw [5,6,11] (fun vst' vout' jj wx=>∃(t:Nat),vst'=.slice a1 n c1∧vout'=.slice a2 no c2∧jj=.int .i64 ((t:Int) - 1)∧t≤n∧Hid (findTo q.R s.I P.st c n=findTo q.R s.I P.st c t)∧Hid (PW W wx (.slice a1 n c1) (.slice a2 no c2) P.st P.out)) (fun _ _ jj _=>(intOf jj+1).toNat)
      case atStart=>exact⟨n,rfl,rfl,by go_num,Nat.le_refl _,hid rfl,hid (HP.out.fr0 (frz _ _ _ rfl rfl rfl rfl))⟩
      case round =>
          obtain⟨t,rfl,rfl,rfl,htn,HFT,HPX⟩:=hrel;have HPSX:=hid (HPS.out.fr0 HPX.out.fr);have HISX:=hid (HIS.out.fr HPX.out.fr List.not_mem_nil);have HBXX:=hid (HBX.out.fr HPX.out.fr List.not_mem_nil);have x0:=HBXX.out 0 _ rfl;have d0:=HPSX.out.c0
          rcases t with _ | t
          ·have HN:=hid (HF0.out (by rw[←HNN.out];exact HFT.out))
           go_wp2;go_roundw
           case rel=>exact⟨k+1,by go_num,by omega,hid (by rw[HN.out];exact HST.out),hid (by rw[HN.out];exact HPX.out)⟩
           case measure=>simp[intOf];omega
          ·have hc:((t+1:Nat):Int) - 1=(t:Int):=by omega
           rw[hc];have HOS:=hid (show wr.ownsRow W.heap.size 3 1 (.slice a1 n c1) n (intsN P.st) by have:=HPX.out.os;rw[←HNN.out]at this;exact this);obtain⟨g1,cap1,hsh⟩:=owns_shape (by omega) HOS.out;cases hsh;have f1:=owns_rowN HOS.out HNN.out.symm t (by omega);have hxk:=HSX.out (nix P.st t) (by rw[nix_of_get (show t<P.st.length by rw[←HNN.out];omega)];exact List.getElem_mem _);obtain⟨hi2,e1,e2,e3,e4⟩:=at_k HPSX.out HISX.out (Fr.refl _ _) (show nix P.st t<s.I.length by rw[←HM.out];omega);have e5:=HPSX.out.rR _ hi2;have HFS:=hid (show findTo q.R s.I P.st c (t+1)=if nth q.R (nix s.I (nix P.st t))=c then some t else findTo q.R s.I P.st c t from rfl);have HND:=hid (HF1.out t);clear e2 e3 e4;generalize hx:nix P.st t=x at *;have HX:=hid hx;clear hx;generalize nix s.I x=ix at *;generalize nth q.R ix=rx at *;by_cases hrc:rx=c
           ·have HN:=hid (HND.out (by rw[←HNN.out];exact HFT.out.trans (HFS.out.trans (if_pos hrc))))
            subst hrc;have hn0:0<n:=by omega
            have htI:(t:Int)<(n:Int):=by omega
            clear HFT HFS HND HF0 HF1;go_wp2;go_quiet (fail);go_wp2;clear x0 d0 e1 e5 f1;go_loopw [12] (fun aa wy=>∃(a:Nat),aa=.int .i64 a∧a≤no∧Hid (∀t,t<a→((P.out[t]?).getD (0,0)).1<x)∧Hid (PW W wy (.slice (some ⟨g1,0,none⟩) n c1) (.slice a2 no c2) P.st P.out)) (fun aa _=>no - (intOf aa).toNat)
            case atStart=>exact⟨0,rfl,Nat.zero_le _,hid (fun t ht=>absurd ht (Nat.not_lt_zero _)),hid (HPX.out.fr0 (frz _ _ _ rfl rfl rfl rfl))⟩
            case round =>
             obtain⟨a,rfl,han,HLT,HPY⟩:=hrel;have HOS2:=hid (show wr.ownsRow W.heap.size 3 1 (.slice (some ⟨g1,0,none⟩) n c1) n (intsN P.st) by have:=HPY.out.os;rw[←HNN.out]at this;exact this);have HOO2:=hid (show wr.ownsRow W.heap.size 156 2 (.slice a2 no c2) no (pcells P.out) by have:=HPY.out.oo;rw[←HNO.out]at this;exact this);have f1:wr.cell? ⟨g1,t,none⟩=some (.int .i64 (nix P.st t:Nat)):=owns_rowN HOS2.out HNN.out.symm t (by omega);rw[HX.out]at f1;have hex:(a<no∧((P.out[a]?).getD (0,0)).1<x)∨(0<no∧(a<no→¬((P.out[a]?).getD (0,0)).1<x))∨(no=0∧a=0):=by omega
             obtain⟨hal,hlx⟩ | ⟨hn0',hge⟩ | ⟨hno0,ha0⟩:=hex
             ·obtain⟨g2,cap2,hsh2⟩:=owns_shape (by omega) HOO2.out
              cases hsh2;have f2:wr.cell? ⟨g2,a * 2,none⟩=some (.int .i64 (((P.out[a]?).getD (0,0)).1:Nat)):=by rw[HOO2.out.cellAt _ (by omega)];exact(pcells_at P.out a (by rw[←HNO.out];exact hal)).1
              have HLA:=hid hlx;obtain⟨z,hz⟩:∃z,z=((P.out[a]?).getD (0,0)).1:=⟨_,rfl⟩;rw[←hz]at f2 hlx;clear hz;have haI:(a:Int)<(no:Int):=by omega
              have hzI:(z:Int)<(x:Int):=by omega
              go_wp2;go_quiet (fail);go_wp2;go_roundw
              case rel=>exact⟨a+1,by go_num,by omega,hid (fun t' ht'=>by rcases Nat.lt_succ_iff_lt_or_eq.1 ht' with h | h;exact HLT.out t' h;subst h;exact HLA.out),hid (HPY.out.fr0 (frz _ _ _ rfl rfl rfl rfl))⟩
              case measure=>simp[intOf];omega
             ·obtain⟨g2,cap2,hsh2⟩:=owns_shape hn0' HOO2.out
              cases hsh2;have HIN:=hid (ins_at (x,k) P.out a HLT.out (by rw[←HNO.out];exact han) (by rw[←HNO.out];exact hge));have hf2:a<no→wr.cell? ⟨g2,a * 2,none⟩=some (.int .i64 (((P.out[a]?).getD (0,0)).1:Nat)):=fun hal=>by rw[HOO2.out.cellAt _ (by omega)];exact(pcells_at P.out a (by rw[←HNO.out];exact hal)).1
              have htl:(P.out.take a).length=a:=by rw[List.length_take,←HNO.out];omega
              have hdl:(P.out.drop a).length=no - a:=by rw[List.length_drop,←HNO.out]
              have HTL:=hid htl;have HDL:=hid hdl;have hcap:=owns_cap HOO2.out;have hcap1:=owns_cap HOS2.out;have haI:(a:Int)≤(no:Int):=by omega
              have haI2:(a:Int)≤(c2:Int):=by omega
              have htI2:(t:Int)≤(c1:Int):=by omega
              clear htl hdl;by_cases hal:a<no
              case' pos =>
               have f2:=hf2 hal;have hzx:=hge hal;generalize ((P.out[a]?).getD (0,0)).1=z at *;have hzI:¬(z:Int)<(x:Int):=by omega
               have hzd:decide ((z:Int)<(x:Int))=false:=decide_eq_false hzI
              case' neg =>
               have hnI:¬(a:Int)<(no:Int):=by omega
               have hnd:decide ((a:Int)<(no:Int))=false:=decide_eq_false hnI
              all_goals (
               clear hf2 hge
               go_wp2
               go_quiet (fail)
               go_wp2_with (at_builtin;refine wpList_append_own _ rfl _ _ 153 rfl wr.heap.size 156 i1 _ 2 16 Tryz.underlying153 hi1 hy0 hy1 hy2 rfl (by decide) _ 0 [] rfl (World.ownsRow_nil _ _ _ _) _ a _ (pcells (P.out.take a)) rfl (by rw[pcells_len,HTL.out]) ?cc (pcells_one _) (by unfold maxLen;omega) (by omega) ?szz ?_)
               case cc=>exact src_take (owns_fr0 HOO2.out (frz _ _ _ rfl rfl rfl rfl)) a
               case szz=>simp
               intro v1 w1 own1 grow1 nil1
               have HF1:=hid (((Fr.refl [] wr).drewN _).grown grow1 (fun k h=>by cases h))
               try simp only[Nat.zero_add,List.nil_append]at own1
               have HO1:=hid own1
               clear own1 grow1 nil1
               have f3:=HF1.out.cell f1 List.not_mem_nil
               go_wp2_with (at_builtin;refine wpList_append_own _ rfl _ _ 153 rfl wr.heap.size 156 i1 _ 2 16 Tryz.underlying153 hi1 hy0 hy1 hy2 rfl (by decide) _ a (pcells (P.out.take a)) rfl ?own _ 1 _ [.int .i64 x,.int .i64 k] rfl rfl (news_cells _ _ _) (pair_one _ _) (by unfold maxLen;omega) (by omega) ?szz ?_)
               case own=>exact owns_fr0 HO1.out ((Fr.refl [] w1).alloc _)
               case szz=>have:=HF1.out.size;simp;omega
               intro v2 w2 own2 grow2 nil2
               have HF2:=hid ((HF1.out.alloc _).grown grow2 (fun k h=>(HO1.out.lt k h).1))
               have HO2:=hid own2
               have hs2:=HF2.out.size
               clear own2 grow2 nil2
               by_cases hca:c2=a
               all_goals (
                go_wp2_with (at_builtin;refine wpList_append_own _ rfl _ _ 153 rfl wr.heap.size 156 i1 _ 2 16 Tryz.underlying153 hi1 hy0 hy1 hy2 rfl (by decide) _ (a+1) (pcells (P.out.take a)++[.int .i64 x,.int .i64 k]) rfl ?own _ (no - a) _ (pcells (P.out.drop a)) rfl (by rw[pcells_len,HDL.out]) ?cc (pcells_one _) (by unfold maxLen;omega) (by omega) ?szz ?_)
                case own=>exact HO2.out
                case cc=>first | (have hdr:P.out.drop a=[]:=List.drop_eq_nil_iff.2 (by rw[←HNO.out];omega);rw[hdr];intro j u hj;cases hj) | exact src_drop (owns_fr0 HOO2.out HF2.out) a
                case szz=>exact hs2
                intro v3 w3 own3 grow3 nil3
                have HF3:=hid (HF2.out.grown grow3 (fun k h=>(HO2.out.lt k h).1))
                have HP3:=hid (HPY.out.ins HNN.out HNO.out HF3.out (Nat.le_of_lt htn) han own3 HIN.out)
                clear own3 grow3 nil3
                go_wp2
                go_roundw
                case rel=>exact⟨k+1,by go_num,by omega,hid (by rw[HN.out];exact HST.out),hid (by rw[HN.out];exact HP3.out)⟩
                case measure=>simp[intOf];omega)
              )
             ·subst ha0
              subst hno0;have hnil:Value.slice a2 0 c2=.slice none 0 0:=HPY.out.nl HNO.out.symm;cases hnil;have hcap1:=owns_cap HOS2.out;have htI2:(t:Int)≤(c1:Int):=by omega
              have HIN:=hid (ins_at (x,k) P.out 0 HLT.out (Nat.zero_le _) (by rw[←HNO.out];exact fun h=>absurd h (Nat.lt_irrefl _)));have HOE:=hid (show P.out=[]from List.length_eq_zero_iff.1 HNO.out.symm);go_wp2;go_quiet (fail)
              go_wp2_with (first
               | (at_builtin;refine wpList_append_own_none rfl _ _ 153 rfl wr.heap.size 156 i1 2 Tryz.underlying153 hi1 _ 0 [] rfl (World.ownsRow_nil _ _ _ _) rfl ?_)
               | (at_builtin;refine wpList_append_own _ rfl _ _ 153 rfl wr.heap.size 156 i1 _ 2 16 Tryz.underlying153 hi1 hy0 hy1 hy2 rfl (by decide) _ 0 [] rfl (World.ownsRow_nil _ _ _ _) _ 1 _ [.int .i64 x,.int .i64 k] rfl rfl (news_cells _ _ _) (pair_one _ _) (by unfold maxLen;omega) (by omega) ?szz ?_))
              case szz=>simp
              intro v2 w2 own2 grow2 nil2;have HF2:=hid ((((Fr.refl [] wr).drewN _).alloc _).grown grow2 (fun k h=>by cases h))
              try simp only[Nat.zero_add,List.nil_append]at own2
              have HO2:=hid own2;clear own2 grow2 nil2;have HP3:=hid (HPY.out.ins HNN.out HNO.out HF2.out (Nat.le_of_lt htn) (Nat.le_refl _) (by rw[HOE.out];exact HO2.out) HIN.out);go_wp2_with (at_builtin;refine wpList_append_own_none rfl _ _ 153 rfl wr.heap.size 156 i1 2 Tryz.underlying153 hi1 _ 1 [.int .i64 x,.int .i64 k] rfl HO2.out rfl ?_);go_roundw
              case rel=>exact⟨k+1,by go_num,by omega,hid (by rw[HN.out];exact HST.out),hid (by rw[HN.out];exact HP3.out)⟩
              case measure=>simp[intOf];omega
           ·skip
            have HFT2:=hid (HFT.out.trans (HFS.out.trans (if_neg hrc)));clear HFT HFS HND;go_wp2;go_quiet (fail);go_wp2;go_roundw
            case rel=>exact⟨t,rfl,rfl,by go_num,by omega,HFT2,hid (HPX.out.fr0 (frz _ _ _ rfl rfl rfl rfl))⟩
            case measure=>simp[intOf]
    ·skip
     obtain⟨hsh,hr0⟩:=opens_shuts hop;rw[hop]at HFA;have HO78:Hid (∀w,Calls Tryz.prog 160 #[.int .i32 r] w fun e w'=>e=.returned (.int .i32 r)∧w'=w):=hid (fun w=>by have:=ref78_any r w;rw[hop]at this;simpa using this);have HC79:Hid (∀w,Calls Tryz.prog 161 #[.int .i32 r] w fun e w'=>e=.returned (.int .i32 0)∧w'=w):=hid (fun w=>by have:=ref79_any r w;rw[hsh]at this;exact this);clear hop hsh hv2;obtain⟨n,hn⟩:∃n,n=P.st.length:=⟨_,rfl⟩;rw[←hn]at hv1 hst8;have HNN:=hid hn;subst hv1;clear hn;by_cases h8:n=8
     ·have HN:=hid (HFA.out.2.1 rfl rfl (by rw[←HNN.out,h8]))
      have HZZ:=hid (show Z=P.out by
          have:=pairs_stop q.R s.I C (k+1) (by rw[HN.out]) (m - (k+1))
          rw[show k+1+(m - (k+1))=m by omega]at this
          rw[HZ.out,←HM.out,this,HN.out])
      subst h8;go_wp2;go_quiet (fail);go_wp2;go_quiet (fail);go_wp2_with (first | (go_at_call 160;refine(HO78.out _).mono ?_;rintro e w' ⟨rfl,rfl⟩) | (go_at_call 161;refine(HC79.out _).mono ?_;rintro e w' ⟨rfl,rfl⟩));go_ret;exact⟨_,rfl,by rw[HZZ.out];exact prsAt_of (owns_fr0 HP.out.oo (frz _ _ _ rfl rfl rfl rfl)) (by rw[HWS.out];omega) HP.out.nl,HFW.out.trans (HP.out.fr.trans (frz _ _ _ rfl rfl rfl rfl))⟩
     ·have HN:=hid (HFA.out.2.2.1 rfl rfl (by rw[←HNN.out];exact h8))
      have HOS:=hid (show wr.ownsRow W.heap.size 3 1 (.slice a1 n c1) n (intsN P.st) by have:=HP.out.os;rw[←HNN.out]at this;exact this);go_wp2;go_quiet (fail);go_wp2;go_quiet (fail)
      go_wp2_with (first
          | (go_at_call 160;refine(HO78.out _).mono ?_;rintro e w' ⟨rfl,rfl⟩)
          | (go_at_call 161;refine(HC79.out _).mono ?_;rintro e w' ⟨rfl,rfl⟩)
          | (at_builtin;refine wpList_append_own _ rfl _ _ 22 rfl W.heap.size 3 i0 _ 1 8 Tryz.underlying22 hi hz0 hz1 hz2 rfl (by decide) _ n (intsN P.st) rfl ?own _ 1 1 [.int .i64 k] rfl rfl (cell_one_new _ _ _) (one_cell _) (by unfold maxLen;omega) (by omega) ?szz ?_))
      case own=>exact owns_fr0 HOS.out (((Fr.refl [] wr).drewN _).alloc _)
      case szz=>simp;omega
      intro v' w3 own3 hgrow hnil;have HP3:=hid (HP.out.push (((Fr.refl [] wr).drewN _).alloc _) (by rw[←HNN.out];exact own3) hgrow);clear own3 hgrow hnil;go_wp2;go_roundw
      case rel=>exact⟨k+1,by go_num,by omega,hid (by rw[HN.out];exact HST.out),hid (by rw[HN.out];exact HP3.out)⟩
      case measure=>simp[intOf];omega
   ·skip
    have HN:=hid (HFA.out.1 hy13);clear hv1 hv2;go_wp2;go_quiet (fail);go_wp2;go_roundw
    case rel=>exact⟨k+1,by go_num,by omega,hid (by rw[HN.out];exact HST.out),hid (by rw[HN.out];exact HP.out.fr0 (frz _ _ _ rfl rfl rfl rfl))⟩
    case measure=>simp[intOf];omega
  ·have hke:k=m:=by omega
   have HZZ:=hid (show Z=(pairsTo q.R s.I C k).out by rw[HZ.out,hke,HM.out]);clear hke hinv;generalize pairsTo q.R s.I C k=P at *;go_wp2;go_ret;exact⟨_,rfl,by rw[HZZ.out];exact prsAt_of HP.out.oo (by rw[HWS.out];omega) HP.out.nl,HFW.out.trans HP.out.fr⟩
end Go.Proofs.YtnakejhohdbfdaaGreatDoor

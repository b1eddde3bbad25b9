import Derived.Test.YtnakejhohdbfdaaGreatDoorXPlD
import Derived.Test.YtnakejhohdbfdaaGreatDoorXMa
namespace Go.Proofs.YtnakejhohdbfdaaGreatDoor
open Go.RowKit Lev
theorem sorted_len (N:Nat):∀(l:List Nat) (lo:Nat),l.Pairwise (· < ·)→(∀x∈l,lo≤x∧x<N)→l.length≤N - lo
 | [],_,_,_=>by simp
 | a :: l,lo,hs,h=>by
   have ha:=h a List.mem_cons_self;rw[List.pairwise_cons]at hs;have:=sorted_len N l (a+1) hs.2 (fun x hx=>⟨hs.1 x hx,(h x (List.mem_cons_of_mem _ hx)).2⟩);rw[List.length_cons];omega
theorem ch_len {K:List Int}{rs:List (List Nat)}(h:RunsOk K rs){i:Nat}(hi:i<rs.length):(ch K rs i).length≤K.length:=by
 refine sorted_len K.length _ 0 (chain_sorted h _ i hi) (fun x hx=>⟨Nat.zero_le _,?_⟩);obtain⟨j,_,hj,hx⟩:=chain_mem h _ i hi x hx;exact(h.mem hj hx).1
def nextI (o:Option Nat):Int:=match o with | none=>-1 | some m=>m
theorem rowsAt.fr0 {w w':World}{B:Nat}{v:Value}{rs:List (List Nat)}(h:rowsAt w B v rs)(hf:Fr [] w w'):rowsAt w' B v rs :=
 ⟨h.1,h.2.1,fun o cap hv j hj=>by
  obtain⟨g,c,a1,a2,a3⟩:=h.2.2 o cap hv j hj
  exact⟨g,c,hf.cell a1 List.not_mem_nil,a2,owns_fr0 a3 hf⟩⟩
theorem rest_none {K:List Int}{rs:List (List Nat)}{t:Nat}(h:nextTo K rs (run rs t) rs.length=none):rest K rs t=[]:=by rw[rest,h]
theorem rest_some {K:List Int}{rs:List (List Nat)}{t j:Nat}(h:nextTo K rs (run rs t) rs.length=some j):rest K rs t=ch K rs j:=by rw[rest,h]
theorem runs_at {w wr:World}{B o cap n:Nat}{rs:List (List Nat)}(h:rowsAt w B (.slice (some ⟨o,0,none⟩) n cap) rs)(hn:n=rs.length)(hf:Fr [] w wr){j:Nat}(hj:j<n) :
 ∃g c,wr.cell? ⟨o,j,none⟩=some (.slice (some ⟨g,0,none⟩) (run rs j).length c)∧wr.ownsRow B 3 1 (.slice (some ⟨g,0,none⟩) (run rs j).length c) (run rs j).length (intsN (run rs j)):=by
 subst hn;obtain⟨g,c,a1,a2,a3⟩:=(h.fr0 hf).2.2 o cap rfl j hj;exact⟨g,c,a1,a3⟩
def sqMu (n:Nat)(x:Int):Nat:=if x<0 then 0 else n - x.toNat+1
theorem sqMu_neg (n:Nat):sqMu n (-1)=0:=rfl
theorem sqMu_nat (n t:Nat):sqMu n (t:Int)=n - t+1:=by rw[sqMu,if_neg (by omega)];rfl
set_option linter.unusedSimpArgs false in
set_option maxRecDepth 10000 in
set_option maxHeartbeats 8000000 in
theorem ref14_any (q:PH)(C L:List Int)(w:World)(hK:q.K.length=q.n)(hn:q.n≤1000000)(G:List Bool)(hG:∀i,i<q.n→(G[i]?).getD false=gone (nth q.K i))(hM:matesOk q)(hs:PS w q C L G) :
 Calls Tryz.prog 45 #[.pointer (some ⟨q.p,0,none⟩)] w fun e w'=>∃v,e=.returned v∧rowsAt w' w.heap.size v (seqs q.K (runsTo q.K L q.K.length))∧Fr [] w w':=by
 obtain⟨i0,hi,hz0,hz1,hz2⟩:=info_parts info3;obtain⟨i1,hi1,hy0,hy1,hy2⟩:=info_parts info22;have HOK:=hid (runs_ok q.K L);have hshort:=(runs_short q.K L q.K.length);have HSH:=hid hshort.2;have hsh:=hshort.1;have HR:=hid (ref33_any q C L w hK hn G hG hs);have HS:=hid hs;have HK:=hid hK;have HM:=hid hM;generalize runsTo q.K L q.K.length=rs at *;obtain⟨Z,hZ⟩:∃Z,Z=seqs q.K rs:=⟨_,rfl⟩;rw[←hZ];have HZ:=hid hZ;rw[hK]at hsh;clear hs hG hK hZ hM hshort;go_enter Tryz.func45,Tryz.ntmps45;go_wp2_with fail;refine HR.out.mono ?_;rintro e' W ⟨v,rfl,hv,hfw⟩;have HFW:=hid hfw;have HPW:=hid (HS.out.fr0 hfw);have HV:=hid hv;obtain⟨n,hn'⟩:∃n,n=rs.length:=⟨_,rfl⟩;have HN:=hid hn';rw[←hn']at hsh
 rcases Nat.eq_zero_or_pos n with h0 | h0
 ·have hnil:=hv.1 (by rw[←hn'];exact h0)
  subst hnil;have HZ2:=hid (show Z=[] by rw[HZ.out,seqs,←hn',h0];rfl);clear hv hn' hfw HR;go_wp2;go_loopw [4,5] (fun a b wr=>a=.slice none 0 0∧b=.int .i64 0∧Hid (Fr [] W wr)) (fun _ _ _=>0)
  case atStart=>exact⟨rfl,rfl,hid (Fr.refl _ _)⟩
  case round =>
   obtain⟨rfl,rfl,HF⟩:=hrel;go_wp2;go_ret;refine⟨_,rfl,?_,HFW.out.trans HF.out⟩;rw[HZ2.out];exact⟨fun _=>rfl,fun h=>absurd h (by simp),fun o cap h j hj=>absurd hj (by simp)⟩
 ·obtain⟨o,cap,hv2,hoB⟩:=hv.2.1 (by rw[←hn'];exact h0)
  rw[←hn']at hv2;subst hv2;clear hv hn' hfw HR;go_wp2;go_loopw [4,5] (fun v ii wr=>∃(i B:Nat) (hs:List Value),ii=.int .i64 i∧i≤n∧Hid (RW W wr v (seqsTo q.K rs i) hs B)∧Hid ((seqsTo q.K rs i).length≤i)) (fun _ ii _=>n - (intOf ii).toNat)
  case atStart=>exact⟨0,_,_,rfl,Nat.zero_le _,hid (RW.start W),hid (Nat.le_refl _)⟩
  case round =>
   obtain⟨i,B,hs,rfl,hin,HRW,HSL⟩:=hrel;by_cases hlt:i<n
   ·have HNX:=hid (show seqsTo q.K rs (i+1)=if freeTo q.K rs (run rs i) rs.length then seqsTo q.K rs i++[ch q.K rs i]else seqsTo q.K rs i from rfl)
    rw[←HN.out]at HNX;generalize seqsTo q.K rs i=ss at *;obtain⟨a1,c1,hv1⟩:=owns_slice HRW.out.own;obtain⟨sl,hsl⟩:∃sl,sl=ss.length:=⟨_,rfl⟩;rw[←hsl]at hv1;subst hv1;have HSLN:=hid hsl;clear hsl;have HRP:=hid (fun j (hj:j<n)=>List.length_pos_iff.2 (HOK.out.ne j (by rw[←HN.out];exact hj)));have HRL:=hid (fun j (hj:j<n)=>HSH.out _ (run_mem (rs:=rs) (i:=j) (by rw[←HN.out];exact hj)));have HRLT:=hid (fun j (hj:j<n)=>(show lastN (run rs j)<q.n by rw[←HK.out];exact(HOK.out.mem (by rw[←HN.out];exact hj) (lastN_mem (HOK.out.ne j (by rw[←HN.out];exact hj)))).1));go_wp2;go_loopw [6,7,8] (fun bb jj _ wx=>∃(j:Nat),bb=.bool (freeTo q.K rs (run rs i) j)∧jj=.int .i64 j∧j≤n∧Hid (RW W wx (.slice a1 sl c1) ss hs B)∧Hid (Fr [] W wx)) (fun _ jj _ _=>n - (intOf jj).toNat)
    case atStart=>exact⟨0,rfl,rfl,Nat.zero_le _,HRW,hid HRW.out.fr⟩
    case round =>
     obtain⟨j,rfl,rfl,hjn,HRX,HFX⟩:=hrel;by_cases hjl:j<n
     ·skip
      obtain⟨g1,k1,e1,o1⟩:=runs_at HV.out HN.out HFX.out hjl;obtain⟨g2,k2,e2,o2⟩:=runs_at HV.out HN.out HFX.out hlt;have HCC:=hid (fun(w':World) (hf:Fr [] wr w')=>ref34_any q C L G g1 k1 g2 k2 (run rs j) (run rs i) w' ((HPW.out.fr0 HFX.out).fr0 hf) ((owns_rowN o1 rfl).fr hf List.not_mem_nil) ((owns_rowN o2 rfl).fr hf List.not_mem_nil) (HRP.out j hjl) (HRP.out i hlt) (by have:=HRL.out j hjl;rw[HK.out]at this;omega) (HRLT.out j hjl) HM.out);have HFT:=hid (show freeTo q.K rs (run rs i) (j+1)=(freeTo q.K rs (run rs i) j && !follows q.K (run rs j) (run rs i))from rfl);have hjI:(j:Int)<(n:Int):=by omega
      have hiI:(i:Int)<(n:Int):=by omega
      clear o1 o2;generalize follows q.K (run rs j) (run rs i)=fo at *;generalize (run rs j).length=lj at *;generalize (run rs i).length=li at *;generalize freeTo q.K rs (run rs i) j=fj at *;cases fj <;> cases fo
      all_goals (
       go_wp2
       go_quiet (first | (go_at_call 86;exact Calls.quiet_of (HCC.out _ ((Fr.refl [] wr).drewN _))))
       go_wp2
       go_roundw
       case rel=>exact⟨j+1,by rw[HFT.out] <;> rfl,by go_num,by omega,hid (HRX.out.fr0 (frz _ _ _ rfl rfl rfl rfl)),hid (HFX.out.trans (frz _ _ _ rfl rfl rfl rfl))⟩
       case measure=>simp[intOf];omega)
     ·have hje:j=n:=by omega
      have hjI:¬(j:Int)<(n:Int):=by omega
      cases hfr:freeTo q.K rs (run rs i) j
      ·have HNN:=hid (show seqsTo q.K rs (i+1)=ss by rw[HNX.out,←hje,hfr];rfl)
       clear hje hfr HNX;go_wp2;go_roundw
       case rel=>exact⟨i+1,_,_,by go_num,by omega,hid (by rw[HNN.out];exact HRX.out),hid (by rw[HNN.out];have:=HSL.out;omega)⟩
       case measure=>simp[intOf];omega
      ·have HNN:=hid (show seqsTo q.K rs (i+1)=ss++[ch q.K rs i] by rw[HNX.out,←hje,hfr];rfl)
       clear hje hfr HNX;obtain⟨g2,k2,e2,o2⟩:=runs_at HV.out HN.out HFX.out hlt;have hiI:(i:Int)<(n:Int):=by omega
       have hoW:=World.block_lt_of_cell? _ _ e2;dsimp only at hoW;have hrl:=HRL.out i hlt;rw[HK.out]at hrl;have HCE:=hid (ch_eq HOK.out (show i<rs.length by rw[←HN.out];exact hlt));have hcl:=ch_len HOK.out (show i<rs.length by rw[←HN.out];exact hlt);rw[HK.out]at hcl;have hR0:=HRP.out i hlt;obtain⟨R,hR⟩:∃R,R=run rs i:=⟨_,rfl⟩;rw[←hR]at e2 o2 hrl HCE hR0;obtain⟨CH,hCH⟩:∃CH,CH=ch q.K rs i:=⟨_,rfl⟩;rw[←hCH]at HCE hcl HNN;have HO2:=hid o2;obtain⟨lr,hlr⟩:∃lr,lr=R.length:=⟨_,rfl⟩;rw[←hlr]at e2 HO2 hrl;have HLR:=hid hlr;clear hR hCH o2 hlr;go_wp2_with (at_builtin;refine wpList_append_own _ rfl _ _ 22 rfl wr.heap.size 3 i0 _ 1 8 Tryz.underlying22 hi hz0 hz1 hz2 rfl (by decide) _ 0 [] rfl ?own _ lr _ (intsN R) rfl (by rw[intsN_len,Nat.mul_one];exact HLR.out.symm) ?cc (intsN_one _) (by unfold maxLen;omega) (by omega) (by simp) ?_)
       case own=>exact World.ownsRow_lit (base:=wr.heap.size) (e:=3) (size:=1) wr #[] 0 (Nat.le_refl _) (by decide) rfl
       case cc=>intro j u hu;rw[←Nat.zero_add j,←Addr.add_lit];exact(owns_fr0 HO2.out ((Fr.refl [] wr).alloc _)).cells rfl j u hu
       intro v' w3 own3 hgrow hnil;have HF3:=hid (((Fr.refl [] wr).alloc _).grown hgrow (fun k h=>by cases h;exact Nat.le_refl _))
       try simp only[Nat.zero_add,List.nil_append]at own3
       have HO3:=hid own3;clear own3 hgrow hnil;have HRW3:=hid (HRX.out);go_wp2;go_loopw [9,10] (fun vs aa wx=>∃(X:List Nat) (x:Int),aa=.int .i64 x∧Hid (Fr [] wr wx)∧Hid (wx.ownsRow wr.heap.size 3 1 vs X.length (intsN X))∧0<X.length∧((x=-1∧Hid (CH=X))∨(∃t:Nat,x=t∧t<n∧Hid (CH=X++rest q.K rs t)))) (fun _ aa _=>sqMu n (intOf aa))
       case atStart=>exact⟨R,i,rfl,HF3,hid (by rw[←HLR.out];exact HO3.out),hR0,.inr ⟨i,rfl,hlt,HCE⟩⟩
       case round =>
        obtain⟨X,x,rfl,HFY,HOY,hX0,hx⟩:=hrel;have HFZ:=hid (HFX.out.trans HFY.out);obtain⟨gx,cx,hvx⟩:=owns_shape hX0 HOY.out;subst hvx
        rcases hx with⟨rfl,HCX⟩ | ⟨t,rfl,htn,HCX⟩
        ·have hxl:X.length≤q.n:=by rw[←HCX.out];exact hcl
         obtain⟨lx,hlx⟩:∃lx,lx=X.length:=⟨_,rfl⟩;have HOX:=HOY;rw[←hlx]at HOX hxl ⊢;have HLX:=hid hlx;clear hlx;have HRW4:=hid (HRX.out.fr0 HFY.out);have hsl2:=HSL.out;rw[←HSLN.out]at hsl2;go_wp2_with (at_builtin;refine wpList_append_own _ rfl _ _ 98 rfl W.heap.size 22 i1 _ 1 24 Tryz.underlying98 hi1 hy0 hy1 hy2 rfl (by decide) _ sl hs rfl ?own _ 1 1 [.slice (some ⟨gx,0,none⟩) lx cx] rfl rfl (news_at _ _ _ _ (by simp)) (hdr_one _ rfl) (by unfold maxLen;omega) (by omega) ?szz ?_)
         case own=>exact owns_fr0 (by have:=HRW4.out.own;rw[←HSLN.out]at this;exact this) ((Fr.refl [] _).alloc _)
         case szz=>have:=HRW4.out.fr.size;simp;omega
         intro v' w3 own3 hgrow hnil;have HR3:=hid (HRX.out.new (r:=X) (HFY.out.alloc _) HLX.out (HOX.out.alloc _) (by rw[←HSLN.out];exact own3) hgrow);clear own3 hgrow hnil;go_wp2;go_roundw
         case rel=>exact⟨i+1,_,_,by go_num,by omega,hid (by rw[HNN.out,HCX.out];exact HR3.out),hid (by rw[HNN.out,List.length_append];have:=HSL.out;simp;omega)⟩
         case measure=>simp[intOf];omega
        ·have hxt:¬((t:Int)<0):=by omega
         have htI:(t:Int)<(n:Int):=by omega
         have HXL:=hid (show X.length≤q.n by have h:=hcl;rw[HCX.out,List.length_append]at h;omega);go_wp2;go_loopw [11,12,13] (fun nn jj _ wz=>∃(j:Nat),nn=.int .i64 (nextI (nextTo q.K rs (run rs t) j))∧jj=.int .i64 j∧j≤n∧Hid (Fr [] wr wz)) (fun _ jj _ _=>n - (intOf jj).toNat)
         case atStart=>exact⟨0,rfl,rfl,Nat.zero_le _,hid (Fr.refl _ _)⟩
         case round =>
          obtain⟨j,rfl,rfl,hjn2,HFJ⟩:=hrel;have HFQ:=hid (HFZ.out.trans HFJ.out);by_cases hjl2:j<n
          ·obtain⟨g1,k1,e1,o1⟩:=runs_at HV.out HN.out HFQ.out htn
           obtain⟨g2',k2',e2',o2'⟩:=runs_at HV.out HN.out HFQ.out hjl2;have HCC:=hid (fun(w':World) (hf:Fr [] wr w')=>ref34_any q C L G g1 k1 g2' k2' (run rs t) (run rs j) w' ((HPW.out.fr0 HFQ.out).fr0 hf) ((owns_rowN o1 rfl).fr hf List.not_mem_nil) ((owns_rowN o2' rfl).fr hf List.not_mem_nil) (HRP.out t htn) (HRP.out j hjl2) (by have:=HRL.out t htn;rw[HK.out]at this;omega) (HRLT.out t htn) HM.out);have HFT:=hid (show nextTo q.K rs (run rs t) (j+1)=if follows q.K (run rs t) (run rs j)then some j else nextTo q.K rs (run rs t) j from rfl);have hjI:(j:Int)<(n:Int):=by omega
           clear o1 o2' e2;generalize follows q.K (run rs t) (run rs j)=fo at *;generalize (run rs j).length=lj at *;generalize (run rs t).length=lt at *;generalize nextTo q.K rs (run rs t) j=nj at *;cases fo
           all_goals (
            go_wp2
            go_quiet (first | (go_at_call 86;exact Calls.quiet_of (HCC.out _ ((Fr.refl [] wr).drewN _))))
            go_wp2
            go_roundw
            case rel=>exact⟨j+1,by rw[HFT.out] <;> rfl,by go_num,by omega,hid (HFJ.out.trans (frz _ _ _ rfl rfl rfl rfl))⟩
            case measure=>simp[intOf];omega)
          ·have hje:j=rs.length:=by rw[←HN.out];omega
           have hjI:¬(j:Int)<(n:Int):=by omega
           cases hnx:nextTo q.K rs (run rs t) j with
           | none =>
             have HCX2:=hid (show CH=X by rw[hje]at hnx;rw[HCX.out,rest_none hnx,List.append_nil]);clear hnx hje;dsimp only[nextI];go_wp2;go_roundw
             case rel=>exact⟨X,-1,rfl,hid (HFY.out.trans HFJ.out),hid (owns_fr0 HOY.out HFJ.out),hX0,.inl ⟨rfl,HCX2⟩⟩
             case measure=>simp only[intOf];rw[sqMu_neg,sqMu_nat];omega
           | some j' =>
             rw[hje]at hnx;obtain⟨hj1,hj2⟩:=nextTo_some _ _ hnx;have hlater:=HOK.out.later (show t<rs.length by rw[←HN.out];exact htn) hj1 hj2;have hj'n:j'<n:=by rw[HN.out];exact hj1
             have HCX2:=hid (show CH=(X++run rs j')++rest q.K rs j' by rw[HCX.out,rest_some hnx,ch_eq HOK.out hj1,List.append_assoc]);obtain⟨g3,k3,e3,o3⟩:=runs_at HV.out HN.out HFQ.out hj'n;have hXX:X.length+(run rs j').length≤q.n:=by have h:=hcl;rw[HCX2.out,List.length_append,List.length_append]at h;omega
             have HO3:=hid o3;have hj'I:(j':Int)<(n:Int):=by omega
             clear hnx hje hj1 hj2 o3;generalize run rs j'=R3 at *;obtain⟨l3,hl3⟩:∃l3,l3=R3.length:=⟨_,rfl⟩;rw[←hl3]at e3 HO3 hXX;have HL3:=hid hl3;obtain⟨lx,hlx⟩:∃lx,lx=X.length:=⟨_,rfl⟩;have HOX:=hid (owns_fr0 HOY.out HFJ.out);rw[←hlx]at HOX hXX ⊢;have HLX:=hid hlx;clear hl3 hlx e2;dsimp only[nextI];go_wp2_with (at_builtin;refine wpList_append_own _ rfl _ _ 22 rfl _ 3 i0 _ 1 8 Tryz.underlying22 hi hz0 hz1 hz2 rfl (by decide) _ lx (intsN X) rfl HOX.out _ l3 _ (intsN R3) rfl (by rw[intsN_len,Nat.mul_one];exact HL3.out.symm) ?cc (intsN_one _) (by unfold maxLen;omega) (by omega) ?szz ?_)
             case cc=>intro j u hu;rw[←Nat.zero_add j,←Addr.add_lit];exact HO3.out.cells rfl j u hu
             case szz=>have h1:=HFY.out.size;have h2:=HFJ.out.size;omega
             intro v' w3 own3 hgrow hnil;have HF3':=hid ((HFY.out.trans HFJ.out).grown hgrow (fun k h=>(HOX.out.lt k h).1));have HO4:=hid (show w3.ownsRow _ 3 1 v' (X++R3).length (intsN (X++R3)) by rw[List.length_append,←intsN_app,←HLX.out,←HL3.out];exact own3);clear own3 hgrow hnil;go_wp2;go_roundw
             case rel=>exact⟨X++R3,j',rfl,HF3',HO4,by rw[List.length_append];omega,.inr ⟨j',rfl,hj'n,HCX2⟩⟩
             case measure=>simp only[intOf];rw[sqMu_nat,sqMu_nat];omega
   ·have hie:i=n:=by omega
    have HRZ:=hid (show RW W wr _ Z hs B by rw[HZ.out,seqs,←HN.out,←hie];exact HRW.out);clear hie HRW;have hiI:¬(i:Int)<(n:Int):=by omega
    go_wp2;go_ret;refine⟨_,rfl,?_,HFW.out.trans HRZ.out.fr⟩;have h:=HRZ.out.rows;have hle:=HFW.out.size;refine⟨h.1,fun hp=>?_,fun o cap hv j hj=>?_⟩
    ·obtain⟨o,cap,a1,a2⟩:=h.2.1 hp
     exact⟨o,cap,a1,by omega⟩
    ·obtain⟨g,c,a1,a2,a3⟩:=h.2.2 o cap hv j hj
     exact⟨g,c,a1,by omega,owns_low a3 hle⟩
end Go.Proofs.YtnakejhohdbfdaaGreatDoor

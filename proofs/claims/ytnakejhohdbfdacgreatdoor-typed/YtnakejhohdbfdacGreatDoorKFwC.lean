import Derived.Maps.AppendAt
import Derived.Test.YtnakejhohdbfdacGreatDoorKFwB
namespace Go.Proofs.YtnakejhohdbfdacGreatDoor.Cls.Wr
open Go.RowKit Dec Kin Bnd Lay Lev Go.Shelf
attribute [local go_sem] Oper.semAt_some
theorem fn51_any (t:ByteArray)(w:World)(hT:Lib.Utf8Tabs 8 9 w)(h3:TabAt w 1 Tabs.lowTab)(h4:TabAt w 2 Tabs.highTab) :
 Calls Tryz.prog 70 #[.string t] w fun e w'=>e=.returned (.int .i64 (Tabs.look Tabs.classTab ((Lib.decodeGo t).1:Nat)))∧Below w.heap.size w w':=by
 have H23:=hid (Tryz.decode20 t w hT);have hl3:=h3.lt (by decide);have hl4:=h4.lt (by decide);have H25:=hid (fun(Y:World) (hb:Below w.heap.size w Y)=>fn22_any ((Lib.decodeGo t).1:Nat) Y (h3.below hl3 hb) (h4.below hl4 hb));generalize ((Lib.decodeGo t).1:Nat)=r at *;generalize (Lib.decodeGo t).2=m at *;generalize Tabs.look Tabs.classTab (r:Int)=c at *;clear hT h3 h4;go_enter Tryz.func70,Tryz.ntmps70;go_wp2_with fail;refine H23.out.mono ?_;rintro e w1 ⟨rfl,hb1⟩;have H25b:=hid (H25.out w1 hb1);have HB1:=hid hb1;clear hb1 H23 H25;go_wp2_with fail;refine H25b.out.mono ?_;rintro e w2 ⟨rfl,hb2⟩;have HB2:=hid (HB1.out.trans (hb2.mono HB1.out.size));clear hb2 H25b;go_wp2;go_ret;exact⟨rfl,HB2.out⟩
theorem wpListIn_append_at {F:Fence}{n:Nat}{P:Program}(w:World){ops:Array Oper}{rest:List Oper}{o:Oper}{a:Act}{Q:Exit→Act→World→Prop}
 (hg:o.guard=none) (s x:Operand) (t:TypeId) (hop:o.op=Op.call { callee:=Callee.builtin Builtin.append,args:=#[s,x],argTypes:=#[t,t] })
 (base:Nat) (e:TypeId) (i:TypeInfo) (z:Value) (size bytes:Nat) (h1:P.underlying t=some (.slice e)) (h2:P.info? e=some i) (h3:i.zero=some z) (h4:i.size=size) (h5:i.bytes=bytes) (h6:z.cells.size=size) (h7:0<size)
 (v:Value) (k:Nat) (xs:List Value) (hs:a.eval s=v) (hown:w.ownsRow base e size v k xs) (ad:Addr) (m c:Nat) (news:List Value) (hx:a.eval x=.slice (some ad) m c) (hn:news.length=m * size)
 (hc:∀j u,news[j]?=some u→w.cell? (ad.add j)=some u) (h1c:∀u∈news,u.oneCell'=true) (b1:k+m≤maxLen) (b2:(k+m) * bytes≤140737488355328) (b3:base≤w.heap.size)
 (hK:∀v' w',w'.ownsRow base e size v' (k+m) (xs++news)→w.grownBy w' v.ownBlock→(v'.ownBlock=v.ownBlock∨v'.ownBlock=some w.heap.size)→wpListIn F n P ops Q rest (a.put o.dst v') w') :
 wpListIn F n P ops Q (o :: rest) a w:=by
 refine wpListIn_plain hg fun K hK'=>?_
 obtain⟨v',w',hrun,r1,r2,_,r4⟩:=run_append_own_at (P:=P) (w:=w) base t o.type e i z size bytes h1 h2 h3 h4 h5 h6 h7 v k xs hown ad m c news hn hc h1c b1 b2 b3;unfold Oper.wpIn;refine⟨?_,?_⟩
 ·simp[Oper.about,hop,resolve,Target.leads,Sem.run_pure]
 ·rw[Oper.semAt_plain F _ _ (by rw[hop];intro c hc';cases hc')]
  simp[execOp,hop,resolve,invoke,builtin,hs,hx,hrun,Result.andThen];exact hK' _ _ (hK v' w' r1 r2 r4)
theorem own_blk {w w':World}{base:Nat}{e:TypeId}{size:Nat}{v:Value}{n:Nat}{xs:List Value}(h:w.ownsRow base e size v n xs)(hb:∀g,v.ownBlock=some g→w'.heap[g]?=w.heap[g]?):w'.ownsRow base e size v n xs:=by
 refine⟨h.1,?_⟩
 rcases h.2 with h1 | ⟨g,cap,cur,hv,hg,hh,r⟩
 ·exact .inl h1
 ·exact .inr ⟨g,cap,cur,hv,hg,by rw[hb g (by rw[hv];rfl)];exact hh,r⟩
theorem lt_of_blk {A:World}{k:Nat}{o:Obj}(h:A.heap[k]?=some o):k<A.heap.size:=(Array.getElem?_eq_some_iff.1 h).1
theorem fn42_any (s:ByteArray)(w:World):Calls Tryz.prog 69 #[.string s] w fun e w' =>
 e=.returned (.func (.func 115) #[] #[.pointer (some ⟨w.heap.size,0,none⟩)])∧w'=w.alloc (.cells #[.string s] 9):=by
 go_enter Tryz.func69,Tryz.ntmps69;go_wp2;go_ret;exact⟨by simp,rfl⟩
theorem cell_of_obj {A:World}{b:Nat}{x:Value}{t:TypeId}(h:A.heap[b]?=some (.cells #[x] t (0,0))):A.cell? ⟨b,0,none⟩=some x:=by simp[World.cell?,h]
theorem lft_in {R x:Int}(hx:0≤x)(hR:-1≤R∧R≤9223372036854775807):-1≤lft R x∧lft R x≤9223372036854775807:=by unfold lft;split <;> omega
theorem bw_mm (x:Int):min (max x 0) 1073741824=bw x:=by unfold bw;split <;> (try split) <;> omega
set_option maxRecDepth 10000 in
set_option maxHeartbeats 4000000 in
theorem leaves_any (W:List Int)(q m cp g o:Nat)(fr:Int)(b:Bool)(L:Int)(w:World)(hL:-1≤L∧L≤9223372036854775807)(hm:0<m)(hm2:m≤4096)
 (hc:∀Y,Below w.heap.size w Y→∀i,i<m→Y.cell? ⟨g,o+i,none⟩=some (.int .i64 (nth W (q+i)))) :
 Calls Tryz.prog 71 #[.agg #[.int .i64 fr,.bool b,.slice (some ⟨g,o,none⟩) m cp],.int .i64 L] w fun e w'=>e=.returned (.int .i64 (lft L (sw W q m)))∧Below w.heap.size w w':=by
 have HC:=hide hc;clear hc;obtain⟨w1,hw1⟩:∃w1,w1=w.alloc (.cells #[.int .i64 fr,.bool b,.slice (some ⟨g,o,none⟩) m cp] 104):=⟨_,rfl⟩;have HB1:=hide (show Below w.heap.size w w1 by rw[hw1];exact(Below.refl _ w).alloc (Nat.le_refl _) _);have ho:w1.heap[w.heap.size]?=some (.cells #[.int .i64 fr,.bool b,.slice (some ⟨g,o,none⟩) m cp] 104 (0,0)):=by rw[hw1];exact World.alloc_heap_new w _
 have b0:w1.cell? ⟨w.heap.size,2,none⟩=some (.slice (some ⟨g,o,none⟩) m cp):=by simp[World.cell?,ho]
 clear ho;obtain⟨res,hres⟩:∃res,res=lft L (sw W q m):=⟨_,rfl⟩;rw[←hres];have HRS:=hide hres;clear hres;go_enter Tryz.func71,Tryz.ntmps71;go_wp2_with fail;rw[←hw1];clear hw1;go_wp2_with fail;clear b0;go_loopw [1,10] (fun lv iv wr=>∃(i:Nat) (x:Int),i≤m∧iv=.int .i64 i∧lv=.int .i64 x∧Hid (x=L - sw W q i)∧(-1≤x∧x≤9223372036854775807)∧wr=w1) (fun _ iv _=>m - (intOf iv).toNat)
 case atStart=>exact⟨0,L,Nat.zero_le _,rfl,rfl,hide (by simp[sw]),hL,rfl⟩
 case round =>
  obtain⟨i,x,him,rfl,rfl,HX,hx,rfl⟩:=hrel;by_cases hi:i<m
  ·have hiI:(i:Int)<(m:Int):=by omega
   have c0:=HC.out wr HB1.out i hi;have HS:=hide (show sw W q (i+1)=sw W q i+bw (nth W (q+i))from rfl);have HM:=hide (show sw W q (i+1)≤sw W q m by have:=sw_mono W q (i+1) (m - (i+1));rwa [show i+1+(m - (i+1))=m by omega]at this);have hy:=bw_in (nth W (q+i));have hmm:=bw_mm (nth W (q+i));generalize bw (nth W (q+i))=y at *;generalize nth W (q+i)=z at *;by_cases hgt:x<y
   ·have HR:=hide (show res=-1 by
     rw[HRS.out]
     unfold lft
     have:=HX.out;have:=HS.out;have:=HM.out
     rw[if_pos (by omega)])
    go_wp2;go_ret;rw[HR.out];exact⟨rfl,HB1.out⟩
   ·have hgt2:¬x<y:=hgt
    go_wp2;exact⟨⟨i+1,x - y,by omega,by go_num,rfl,hide (by have:=HX.out;have:=HS.out;omega),by omega,trivial⟩,by simp[intOf];omega⟩
  ·obtain rfl:i=m:=by omega
   have hiI:¬(i:Int)<(i:Int):=by omega
   have HR:=hide (show res=x by
    rw[HRS.out]
    unfold lft
    have:=HX.out
    split <;> omega)
   go_wp2;go_ret;rw[HR.out];exact⟨rfl,HB1.out⟩
theorem lft_zero {R:Int}(h:-1≤R):lft R 0=R:=by unfold lft;split <;> omega
theorem lft_over {R x:Int}(hx:0≤x):(lft (max R (-1)) x=-1) ↔ R<x:=by unfold lft;split <;> omega
set_option maxRecDepth 10000 in
set_option maxHeartbeats 4000000 in
theorem line_any (B:Nat→Bool)(X P:Nat→Int)(aw:Nat→Option Addr)(mw cp:Nat→Nat)(R:Int)(c f gp o cr:Nat)(w:World)(hc:c≤4096)(hf:f≤c)(a:Option Addr)(ha:f<c→a=some ⟨gp,o,none⟩)
 (hX:∀i,i<c→0≤X i∧X i≤4398046511104) (hR:-9223372036854775808≤R∧R≤9223372036854775807)
 (hP:∀Y,Below w.heap.size w Y→∀d,f+d<c→Y.cell? ⟨gp,o+d * 3,none⟩=some (.int .i64 (P (f+d)))∧Y.cell? ⟨gp,o+d * 3+1,none⟩=some (.bool (B (f+d)))∧Y.cell? ⟨gp,o+d * 3+2,none⟩=some (.slice (aw (f+d)) (mw (f+d)) (cp (f+d))))
 (hV:∀Y,Below w.heap.size w Y→∀i,i<c→∀L,-1≤L∧L≤9223372036854775807→Calls Tryz.prog 71 #[.agg #[.int .i64 (P i),.bool (B i),.slice (aw i) (mw i) (cp i)],.int .i64 L] Y fun e w'=>e=.returned (.int .i64 (lft L (X i)))∧Below Y.heap.size Y w') :
 Calls Tryz.prog 36 #[.slice a (c - f) cr,.int .i64 R] w fun e w'=>e=.returned (.int .i64 (ln1 B X R c f:Nat))∧Below w.heap.size w w':=by
 have HX:=hide hX;have HP:=hide hP;have HV:=hide hV;have HA:=hide ha;obtain⟨r,hr⟩:∃r,r=ln1 B X R c f:=⟨_,rfl⟩;rw[←hr];have HRS:=hide hr;obtain⟨R1,hR1⟩:∃R1,R1=max R (-1):=⟨_,rfl⟩;have hR1b:-1≤R1∧R1≤9223372036854775807:=by omega
 have HOV:=hide (fun(x:Int) (hx:0≤x)=>lft_over (R:=R) hx);rw[←hR1]at HOV;have hmx:max R (-1)=R1:=hR1.symm;obtain⟨k,hk⟩:∃k,k=c - f:=⟨_,rfl⟩;rw[←hk];have HK:=hide hk;have hk4:k≤4096:=by omega
 clear hX hP hV ha hr hR1 hk;go_enter Tryz.func36,Tryz.ntmps36;go_wp2_with fail;clear hmx;go_loopw [5,6,13] (fun lv bv iv wr=>∃d:Nat,d≤k∧iv=.int .i64 d∧lv=.int .i64 (lft R1 (sm X f d))∧bv=.int .i64 (lb B f d)∧Hid (lnF B X R c f (c - f - d) d=r)∧Hid (Below w.heap.size w wr)) (fun _ _ iv _=>k - (intOf iv).toNat)
 case atStart=>exact⟨0,Nat.zero_le _,rfl,by rw[show sm X f 0=0 from rfl,lft_zero hR1b.1],rfl,hide (by rw[HRS.out];rfl),hide (Below.refl _ _)⟩
 case round =>
  obtain⟨d,hd,rfl,rfl,rfl,HN,HB⟩:=hrel;have hsm:=sm_bd HX.out f d (by have:=HK.out;omega);have hlf:=lft_in hsm.1 hR1b;have hlb:=lb_le B f d;by_cases hdk:d<k
  ·have hdI:(d:Int)<(k:Int):=by omega
   have hfc:f+d<c:=by have:=HK.out;omega
   have haa:=HA.out (by omega);subst haa;obtain⟨p0,p1,p2⟩:=HP.out wr HB.out d hfc;have hxb:=HX.out (f+d) hfc;have hsz:=HB.out.size;obtain⟨wq,hwq⟩:∃wq,wq=(wr.alloc (.cells #[.int .i64 (P (f+d)),.bool (B (f+d)),.slice (aw (f+d)) (mw (f+d)) (cp (f+d))] 104)):=⟨_,rfl⟩;have HQ:=hide (show Below w.heap.size w wq by rw[hwq];exact HB.out.alloc hsz _);have HO:=hide (show wq.heap[wr.heap.size]?=some (.cells #[.int .i64 (P (f+d)),.bool (B (f+d)),.slice (aw (f+d)) (mw (f+d)) (cp (f+d))] 104 (0,0)) by rw[hwq];exact World.alloc_heap_new wr _);have HSM:=hide (show sm X f (d+1)=sm X f d+X (f+d)from rfl);have HLL:=hide (lft_lft (R:=R1) (x:=sm X f d) (y:=X (f+d)) hxb.1);have HST:=hide (fun(h:stp B X R f d=false)=>(lnF_step (B:=B) (X:=X) (R:=R) (c:=c) (f:=f) (d:=d) hfc h).symm.trans HN.out);have HSP:=hide (fun(h:stp B X R f d=true)=>(lnF_stop (B:=B) (X:=X) (R:=R) (c:=c) (f:=f) (d:=d) hfc h).symm.trans HN.out);have HOV1:=hide (HOV.out (sm X f (d+1)) (by rw[HSM.out];omega));have HSD:=hide (show stp B X R f d=(decide (0<d) && !B (f+d) && decide (R<sm X f (d+1)))from rfl);have HLB:=hide (show lb B f (d+1)=if B (f+d)then d+1 else lb B f d from rfl);have H23:=hide (HV.out wq HQ.out (f+d) hfc _ hlf);rw[HLL.out,←HSM.out]at H23;have hlf1:=lft_in (R:=R1) (x:=sm X f (d+1)) (by rw[HSM.out];omega) hR1b;obtain⟨l1,hl1⟩:∃l1,l1=lft R1 (sm X f (d+1)):=⟨_,rfl⟩;rw[←hl1]at H23 hlf1 HOV1;have HL1:=hide hl1;clear hl1;generalize lft R1 (sm X f d)=l0 at *;generalize B (f+d)=b at *;generalize P (f+d)=pp at *;generalize aw (f+d)=aa at *;generalize mw (f+d)=mm at *;generalize cp (f+d)=cc at *;clear HLL HSM hsm hxb;go_wp2_with fail;rw[←hwq];clear hwq p0 p1 p2;refine H23.out.mono ?_;rintro e w2 ⟨rfl,hb2⟩;have HB2:=hide (HQ.out.trans (hb2.mono HQ.out.size));have q1:w2.cell? ⟨wr.heap.size,1,none⟩=some (.bool b):=by
    have h:=(hb2.block wr.heap.size (by have:=(Array.getElem?_eq_some_iff.1 HO.out).1;exact this)).trans HO.out;simp[World.cell?,h]
   clear hb2 H23 HO;cases b
   ·by_cases hd0:0<d
    ·have hd0I:(0:Int)<(d:Int):=by omega
     by_cases hov:l1=-1
     ·subst hov
      have HSS:=hide (HSP.out (by rw[HSD.out];simp;exact⟨hd0,HOV1.out.1 rfl⟩));by_cases hl0:0<lb B f d
      ·have HR:=hide (show r=lb B f d by rw[←HSS.out,if_pos hl0])
       generalize lb B f d=z at *;have hl0I:(0:Int)<(z:Int):=by omega
       go_wp2;go_ret;rw[HR.out];exact⟨rfl,HB2.out⟩
      ·have HR:=hide (show r=d by rw[←HSS.out,if_neg hl0])
       have hz:lb B f d=0:=by omega
       rw[hz];clear hz hl0 hlb;go_wp2;go_ret;rw[HR.out];exact⟨rfl,HB2.out⟩
     ·have hovb:(l1 == -1)=false:=by simpa using hov
      have HNX:=hide (HST.out (by rw[HSD.out];simp;intro _;have:=mt HOV1.out.2 hov;omega));generalize lb B f d=z at *;go_wp2;exact⟨⟨d+1,by omega,by go_num,by rw[HL1.out],by rw[HLB.out];rfl,hide HNX.out,HB2⟩,by simp[intOf];omega⟩
    ·obtain rfl:d=0:=by omega
     have HNX:=hide (HST.out (by rw[HSD.out];simp));generalize lb B f 0=z at *;go_wp2;exact⟨⟨0+1,by omega,by go_num,by rw[HL1.out],by rw[HLB.out];rfl,hide HNX.out,HB2⟩,by simp[intOf];omega⟩
   ·have HNX:=hide (HST.out (by rw[HSD.out];simp))
    generalize lb B f d=z at *;go_wp2;exact⟨⟨d+1,by omega,by go_num,by rw[HL1.out],by rw[HLB.out];go_num,hide HNX.out,HB2⟩,by simp[intOf];omega⟩
  ·obtain rfl:d=k:=by omega
   have hdI:¬(d:Int)<(d:Int):=by omega
   have HR:=hide (show r=d by rw[←HN.out,lnF_end (by have:=HK.out;omega)]);go_wp2;go_ret;rw[HR.out];exact⟨rfl,HB.out⟩
end Go.Proofs.YtnakejhohdbfdacGreatDoor.Cls.Wr

import Derived.Test.YtnakejhohdbfdacGreatDoorKLdG
import Derived.Lib.AppendZerosOnto
import Derived.Test.YtnakejhohdbfdacGreatDoorKPvA
import Derived.Test.YtnakejhohdbfdacGreatDoorKMm
import Derived.Test.YtnakejhohdbfdacGreatDoorKPrV
import Derived.Test.YtnakejhohdbfdacGreatDoorKMd
namespace Go.Proofs.YtnakejhohdbfdacGreatDoor
open Go.RowKit Lev Lay Bnd
set_option maxRecDepth 10000 in
set_option maxHeartbeats 4000000 in
theorem grow_nil (n:Nat)(w:World)(h0:0<n)(hn:n≤10000):Calls Tryz.prog 134 #[.slice none 0 0,.int .i64 n] w fun e w'=>∃g c,e=.returned (.slice (some ⟨g,0,none⟩) 0 c)∧w'.ownsRow w.heap.size 3 1 (.slice (some ⟨g,0,none⟩) 0 c) 0 []∧Fr [] w w':=by
 have tb:Tryz.t3.bytes=8:=by kernel_rfl
 have hfit:=growslice_fits (old:=0) h0 (show n * 8≤140737488355328 by omega);have hA:¬(281474976710656:Int)<(n:Int) * (Tryz.t3.bytes:Int):=by rw[tb];omega
 have hB:¬ 281474976710656<Builtin.nextslicecap n 0 * Tryz.t3.bytes:=by rw[tb];omega
 have hge:=grownCap_ge w n 0 3;have hle:=grownCap_le_maxLen w n 0 3 (by unfold maxLen;omega)
 have HO:=hid (show ∀cs:Array Value,cs.size=grownCap w n 0 3→((w.alloc (.cells cs 3)).drew).ownsRow w.heap.size 3 1 (.slice (some ⟨w.heap.size,0,none⟩) 0 (grownCap w n 0 3)) 0 []from fun cs hcs =>
  ⟨rfl,.inr ⟨w.heap.size,_,cs,rfl,Nat.le_refl _,obj_new w _,Nat.zero_le _,hle,by omega,by simp⟩⟩)
 have h1:¬((n:Int)<0):=by omega
 have h4:(0:Int)<(n:Int):=by omega
 have h5:¬n=0:=by omega
 have HGE:=hid hge;clear tb hfit hge hle;go_enter Tryz.func134,Tryz.ntmps134;go_wp2;go_ret;exact⟨_,_,rfl,HO.out _ (by rw[Array.size_append,size_zeroCells,size_zeroCells];have:=HGE.out;show n * 1+(grownCap w n 0 3 - n) * 1=grownCap w n 0 3;omega),frA w _⟩
def slAd (w:World)(v:Value)(l:List Int):Prop:=∃a c,v=.slice a l.length c∧((a=none∧c=0∧l.length=0)∨∃ad:Addr,a=some ad∧∀i,i<l.length→w.cell? (ad.add i)=some (.int .i64 (nth l i)))
theorem cell_spot {w:World}{a:Addr}{v:Value}(h:w.cell? a=some v):a=⟨a.block,a.off,none⟩:=by
 obtain⟨b,o,sp⟩:=a;cases sp with
 | none=>rfl
 | some x =>
   unfold World.cell? at h;split at h
   ·simp at h
   ·cases h
theorem fr_cell' {w w':World}{a:Addr}{v:Value}(hf:Fr [] w w')(h:w.cell? a=some v):w'.cell? a=some v:=by
 have e:=cell_spot h;rw[e]at h ⊢;exact hf.cell h List.not_mem_nil
theorem slAd.fr {w w':World}{v:Value}{l:List Int}(h:slAd w v l)(hf:Fr [] w w'):slAd w' v l:=by
 obtain⟨a,c,h1,h2⟩:=h;refine⟨a,c,h1,h2.imp id ?_⟩;rintro ⟨ad,h3,h4⟩;exact⟨ad,h3,fun i hi=>fr_cell' hf (h4 i hi)⟩
theorem slAd.at {w:World}{v:Value}{l:List Int}(h:slAd w v l):slAt w v l:=by
 obtain⟨a,c,h1,h2⟩:=h;refine⟨a,c,h1,?_⟩
 rcases h2 with⟨_,_,h3⟩ | ⟨ad,rfl,h4⟩
 ·exact .inl h3
 ·by_cases h0:l.length=0
  ·exact .inl h0
  ·have e:=cell_spot (h4 0 (by omega))
   have e0:ad.add 0=ad:=rfl;rw[e0]at e;obtain⟨b,o,sp⟩:=ad;simp only[Addr.mk.injEq,true_and]at e;subst e;exact .inr ⟨b,o,rfl,fun i hi=>by have:=h4 i hi;rwa [Addr.add_lit]at this⟩
def catTo (L:Nat→List Int):Nat→List Int
 | 0=>[]
 | k+1=>catTo L k++L k
theorem catTo_mono (L:Nat→List Int):∀ {k j:Nat},k≤j→(catTo L k).length≤(catTo L j).length
 | k,0,h=>by obtain rfl:k=0:=by omega
             exact Nat.le_refl _
 | k,j+1,h=>by
   rcases Nat.lt_or_eq_of_le h with h1 | h1
   ·have:=catTo_mono L (k:=k) (j:=j) (by omega);rw[catTo,List.length_append];omega
   ·rw[h1];exact Nat.le_refl _
theorem ints64_one (l:List Int):∀u∈ints64 l,u.oneCell'=true:=by
 intro u hu;obtain⟨x,_,rfl⟩:=List.mem_map.1 hu;rfl
set_option maxRecDepth 10000 in
set_option maxHeartbeats 4000000 in
theorem concat_any (L:Nat→List Int)(H:Nat→Value)(gs cs m:Nat)(w:World)(hm:m≤10)(hc:∀i,i<m→w.cell? ⟨gs,i,none⟩=some (H i))(hs:∀i,i<m→slAd w (H i) (L i))(h0:0<(catTo L m).length)(hl:(catTo L m).length≤6000) :
 Calls Tryz.prog 110 #[.slice (some ⟨gs,0,none⟩) m cs] w fun e w'=>∃g c,e=.returned (.slice (some ⟨g,0,none⟩) (catTo L m).length c)∧w'.ownsRow w.heap.size 3 1 (.slice (some ⟨g,0,none⟩) (catTo L m).length c) (catTo L m).length (ints64 (catTo L m))∧Fr [] w w':=by
 obtain⟨i0,hi,hz0,hz1,hz2⟩:=info_parts info3;have HC:=hid hc;have HS:=hid hs;have HG:=hid (fun X=>grow_nil (catTo L m).length X h0 (by omega));have HCM:=hid (fun k (hk:k≤m)=>catTo_mono L hk);obtain⟨N,hN⟩:∃N,N=(catTo L m).length:=⟨_,rfl⟩;rw[←hN]at h0 hl HG HCM ⊢;have HN:=hid hN;clear hc hs hN;go_enter Tryz.func110,Tryz.ntmps110;go_wp2_with fail;go_loop [3,11] (fun zz kk=>∃k:Nat,kk=.int .i64 k∧k≤m∧zz=.int .i64 ((catTo L k).length:Nat)) (fun _ kk=>m - (intOf kk).toNat)
 case atStart=>exact⟨0,rfl,Nat.zero_le _,rfl⟩
 case round =>
  obtain⟨k,rfl,hkm,rfl⟩:=hrel;by_cases hkl:k<m
  ·have hkI:(k:Int)<(m:Int):=by omega
   have d0:=HC.out k hkl;obtain⟨a,c,hH,_⟩:=HS.out k hkl;rw[hH]at d0;have h1:=HCM.out (k+1) (by omega);have HNX:=hid (show(catTo L (k+1)).length=(catTo L k).length+(L k).length by rw[catTo,List.length_append]);rw[HNX.out]at h1;generalize (catTo L k).length=lk at *;generalize (L k).length=ll at *;have hz:¬((lk:Int)+(ll:Int))<0:=by omega
   clear hH;go_wp2;go_round
   case rel=>exact⟨k+1,by go_num,by omega,by rw[HNX.out];go_num⟩
   case measure=>simp[intOf];omega
  ·obtain rfl:k=m:=by omega
   rw[←HN.out];go_wp2_with fail;refine(HG.out _).mono ?_;rintro e w1 ⟨g1,c1,rfl,own1,hf1⟩;have HO1:=hid own1;have HF1:=hid hf1;clear own1 hf1 HG;go_wp2_with fail;go_loopw [6,27] (fun vv kk wr=>∃(t g c:Nat),kk=.int .i64 t∧t≤k∧vv=.slice (some ⟨g,0,none⟩) (catTo L t).length c∧Hid (wr.ownsRow w.heap.size 3 1 (.slice (some ⟨g,0,none⟩) (catTo L t).length c) (catTo L t).length (ints64 (catTo L t)))∧Hid (Fr [] w wr)) (fun _ kk _=>k - (intOf kk).toNat)
   case atStart=>exact⟨0,g1,c1,rfl,Nat.zero_le _,rfl,HO1,HF1⟩
   case round =>
    obtain⟨t,g,c,rfl,htk,rfl,HO,HF⟩:=hrel;by_cases htl:t<k
    ·have htI:(t:Int)<(k:Int):=by omega
     have d0:=HF.out.cell (HC.out t htl) List.not_mem_nil;obtain⟨a,ch,hH,hx⟩:=(HS.out t htl).fr HF.out;rw[hH]at d0;have h1:=HCM.out (t+1) (by omega);have HNX:=hid (show(catTo L (t+1)).length=(catTo L t).length+(L t).length by rw[catTo,List.length_append]);rw[HNX.out]at h1;have hsz:=HF.out.size;have HLN:=hid (show(ints64 (L t)).length=(L t).length * 1 by simp);have HIS:=hid (show ints64 (catTo L (t+1))=ints64 (catTo L t)++ints64 (L t) by rw[catTo];simp);have HCAT:=hid (show(L t).length=0→catTo L (t+1)=catTo L t from fun h=>by rw[catTo,List.length_eq_zero_iff.1 h,List.append_nil]);generalize hlk:(catTo L t).length=lk at *;generalize hll:(L t).length=ll at *;clear hH hlk hll
     rcases hx with⟨rfl,rfl,rfl⟩ | ⟨ad,rfl,hcells⟩
     ·have HO2:=hid (show wr.ownsRow w.heap.size 3 1 (.slice (some ⟨g,0,none⟩) lk c) lk (ints64 (catTo L t))from HO.out)
      go_wp2_with (at_builtin;refine wpList_append_own_none rfl _ _ 32 rfl w.heap.size 3 i0 1 Tryz.underlying32 hi _ lk _ rfl HO2.out rfl ?_);go_wp2;go_roundw
      case rel=>exact⟨t+1,g,c,by go_num,by omega,by rw[HNX.out,Nat.add_zero],hid (by rw[HNX.out,Nat.add_zero,HCAT.out rfl];exact HO.out),HF⟩
      case measure=>simp[intOf];omega
     ·have HNW:=hid (show ∀j u,(ints64 (L t))[j]?=some u→wr.cell? (ad.add j)=some u from fun j u hu=>by
       have hj:=(List.getElem?_eq_some_iff.1 hu).1
       rw[HLN.out,Nat.mul_one]at hj
       have hj2:j<(L t).length:=by have:=(List.getElem?_eq_some_iff.1 hu).1;simpa using this
       rw[ints64_at hj2]at hu
       rw[hcells j hj];exact hu)
      clear hcells;go_wp2_with (at_builtin;refine wpList_append_own _ rfl _ _ 32 rfl w.heap.size 3 i0 _ 1 8 Tryz.underlying32 hi hz0 hz1 hz2 rfl (by decide) _ lk _ rfl HO.out ad ll _ (ints64 (L t)) rfl HLN.out HNW.out (ints64_one _) (by unfold maxLen;omega) (by omega) hsz ?_);intro v' w3 own3 hgrow hnil;have hnn:v'≠.slice none 0 0:=hnil;obtain⟨g',c',hv'⟩:∃g' c',v'=.slice (some ⟨g',0,none⟩) (lk+ll) c':=by
       rcases own3.2 with⟨h5,_⟩ | ⟨g',c',cur,h5,_⟩
       ·exact absurd h5 hnn
       ·exact⟨g',c',h5⟩
      subst hv';have HF3:=hid (HF.out.grown hgrow (fun x h=>(HO.out.lt x h).1));have HO3:=hid own3;clear own3 hgrow hnil hnn;go_wp2;go_roundw
      case rel=>exact⟨t+1,g',c',by go_num,by omega,by rw[HNX.out],hid (by rw[HNX.out,HIS.out];exact HO3.out),HF3⟩
      case measure=>simp[intOf];omega
    ·obtain rfl:t=k:=by omega
     rw[←HN.out]at HO ⊢;go_wp2;go_ret;exact⟨g,c,rfl,HO.out,HF.out⟩
theorem ei_lt {s:ByteArray}{n:Nat}{Br:List Int}(E:Edges s n Br){k:Nat}(hk:k≤Br.length+1):eiOf s n Br k<(bix s n).length:=by
 have h8:=E.le k hk;have h9:=(bix_len s n).2.1;have:cn s n<(bix s n).length:=by { unfold cn;omega }
 unfold eiOf;omega
theorem edL_lt {s:ByteArray}{n:Nat}(h:Dec.Ends s n){Br:List Int}(E:Edges s n Br){i j:Nat}(hij:i<j)(hj:j≤Br.length+1):nth (edL s Br) i<nth (edL s Br) j:=by
 rw[edL_at h E (by omega),edL_at h E hj];exact bnd_lt h (E.mono i j hij hj) (ei_lt E hj)
theorem edL_rises {s:ByteArray}{n:Nat}(h:Dec.Ends s n){Br:List Int}(E:Edges s n Br):Rises (edL s Br) ((s.size:Nat):Int):=by
 refine⟨List.pairwise_iff_getElem.2 (fun i j hi hj hij=>?_),rfl,?_⟩
 ·have h1:=edL_lt h E hij (by rw[edL_len]at hj;omega)
  rw[nth,nth,List.getElem?_eq_getElem hi,List.getElem?_eq_getElem hj]at h1;exact h1
 ·rw[edL_len]
  simp[edL]
theorem pos_inj {s:ByteArray}{i j:Nat}(h:Dec.pos s i=Dec.pos s j):i=j:=by
 rcases Nat.lt_trichotomy i j with h1 | h1 | h1
 ·have:=Dec.pos_mono s i j h1;omega
 ·exact h1
 ·have:=Dec.pos_mono s j i h1;omega
theorem edL_has {s:ByteArray}{n:Nat}(h:Dec.Ends s n){Br:List Int}(E:Edges s n Br)(j:Nat):(edL s Br).contains ((Dec.pos s j:Nat):Int)=edg (bix s n) (bnd s n) Br j:=by
 have h0:∀k,k≤Br.length+1→nth (edL s Br) k=((Dec.pos s (nix (bix s n) (eiOf s n Br k)):Nat):Int):=fun k hk=>by
  rw[edL_at h E hk,bnd_nth h (ei_lt E hk)]
 rw[Bool.eq_iff_iff,List.contains_iff_mem,edg,List.any_eq_true];constructor
 ·intro hm
  obtain⟨k,hk,he⟩:=List.mem_iff_getElem.1 hm;have hk2:k<Br.length+2:=by rw[edL_len]at hk;exact hk
  refine⟨k,List.mem_range.2 hk2,decide_eq_true ?_⟩;have h1:=h0 k (by omega);rw[nth,List.getElem?_eq_getElem hk,Option.getD_some,he]at h1;exact(pos_inj (Int.ofNat.inj h1)).symm
 ·rintro ⟨k,hk,he⟩
  have hk2:=List.mem_range.1 hk;have h1:=h0 k (by omega);rw[show nix (bix s n) (eiOf s n Br k)=j from of_decide_eq_true he]at h1;rw[←h1];exact nth_mem (by rw[edL_len];omega)
theorem cat_edL (s:ByteArray)(Br:List Int)(L:Nat→List Int)(h0:L 0=[0])(h1:L 1=Br)(h2:L 2=[((s.size:Nat):Int)]):catTo L 3=edL s Br:=by
 simp[catTo,edL,h0,h1,h2]
theorem nth_over {l:List Int}{i:Nat}(h:l.length≤i):nth l i=0:=by rw[nth,List.getElem?_eq_none h];rfl
theorem lvs_in {s:ByteArray}{Lv:List Int}{n:Nat}(h:∀i,0≤nth Lv i∧nth Lv i≤1000)(k:Nat):0≤nth (lvs s Lv n) k∧nth (lvs s Lv n) k≤1000:=by
 by_cases hk:k<(begs s n).length
 ·rw[lvs_at hk];exact h _
 ·rw[nth_over (by rw[lvs_len];omega)];decide
end Go.Proofs.YtnakejhohdbfdacGreatDoor
namespace Go.Proofs.YtnakejhohdbfdacGreatDoor
open Go.RowKit Lev Lay Bnd Go.Shelf
attribute [local go_sem] Oper.semAt_some
def rnAt (w:World)(g n:Nat)(R:List Int)(p:Nat→Nat):Prop:=∀i,i<n→w.cell? ⟨g,i * 3,none⟩=some (.int .i32 (nth R i))∧w.cell? ⟨g,i * 3+1,none⟩=some (.int .i64 (p i:Nat))∧w.cell? ⟨g,i * 3+2,none⟩=some (.int .i64 (p (i+1):Nat))
theorem rnAt.fr {S:List Nat}{w w':World}{g n:Nat}{R:List Int}{p:Nat→Nat}(h:rnAt w g n R p)(hf:Fr S w w')(hg:g ∉ S):rnAt w' g n R p:=fun i hi =>
 ⟨hf.cell (h i hi).1 hg,hf.cell (h i hi).2.1 hg,hf.cell (h i hi).2.2 hg⟩
structure VT (gT n cT:Nat)(R:List Int)(p:Nat→Nat)(bx:Nat)(W:World):Prop where
 t:rnAt W gT n R p
 b:W.cell? ⟨bx,0,none⟩=some (.slice (some ⟨gT,0,none⟩) n cT)
set_option maxRecDepth 100000 in
set_option maxHeartbeats 4000000 in
theorem back_rn (gT n cT:Nat)(R:List Int)(p:Nat→Nat)(bx:Nat)(hn:n≤1000000)(m l:Nat)(V':Nat→World→Prop)(hVB:∀j A,V' j A→VT gT n cT R p bx A)
 (hY:∀j (x:Nat) A,V' j A→(j=x+1∧x<n)→YieldAt Fence.wide (m - 1) Tryz.prog l #[.int .i64 x,.agg #[.int .i32 (nth R x),.int .i64 (p x:Nat),.int .i64 (p (x+1):Nat)]] A fun e B=>e=.returned (.bool true)∧V' x B) (W:World) (h0:V' n W) :
 CallsIn Fence.wide m Tryz.prog 197 (#[.func (.yield l) #[] #[]]++#[.pointer (some ⟨bx,0,none⟩)]) W fun e B=>(∃v,e=.returned v)∧V' 0 B:=by
 have b:=(hVB _ _ h0).b;have HVB:=hid hVB;have HY:=hid hY;have H0:=hid h0;clear hVB hY h0;refine callsIn_of_wp Tryz.func197 rfl trivial ?_ rfl;simp only[Tryz.ntmps197,List.size_toArray,List.length_cons,List.length_nil,Nat.reduceAdd,Nat.reduceSub,Array.replicate_succ,Array.replicate_zero,List.push_toArray,List.append_toArray,List.nil_append,List.cons_append];have hw0:IntKind.i64.wrap ((n:Int) - 1)=(n:Int) - 1:=by rw[IntKind.wrap_i64];omega
 gi_wp2;clear b hw0;gi_loopw [3] (fun a wr=>∃(j:Nat),a=.int .i64 ((j:Int) - 1)∧j≤n∧Hid (V' j wr)) (fun a _=>(intOf a+1).toNat)
 case atStart=>exact⟨n,rfl,Nat.le_refl _,H0⟩
 case round =>
  obtain⟨j,rfl,hj,HV⟩:=hrel
  rcases Nat.eq_zero_or_pos j with hj0 | hj0
  ·subst hj0
   gi_wp2;go_end0;exact⟨⟨_,rfl⟩,HV.out⟩
  ·obtain⟨x,rfl⟩:∃x,j=x+1:=⟨j - 1,by omega⟩
   have hx:((x+1:Nat):Int) - 1=(x:Int):=by omega
   rw[hx];have b:=(HVB.out _ _ HV.out).b;obtain⟨t0,t1,t2⟩:=(HVB.out _ _ HV.out).t x (by omega);have hxi:(x:Int)<(n:Int):=by omega
   have hx0:(0:Int)≤(x:Int):=by omega
   have hw0:IntKind.i64.wrap ((x:Int) - 1)=(x:Int) - 1:=by rw[IntKind.wrap_i64];omega
   obtain⟨fn,tmps,assign,body,hyy,hR⟩:=HY.out (x+1) x wr HV.out ⟨rfl,by omega⟩;generalize nth R x=r at *;generalize p x=p0 at *;generalize p (x+1)=p1 at *;clear HVB HY hx;gi_wp2;refine⟨fun hd=>absurd hd (by decide),hR.mono ?_⟩;rintro e W3 ⟨rfl,hV3⟩;have HV3:=hid hV3;clear hV3;gi_wp2;go_roundw
   case rel=>exact⟨x,by simp,by omega,HV3⟩
   case measure=>simp[intOf]
theorem fn198_any (gT n c:Nat)(w:World):Calls Tryz.prog 145 #[.slice (some ⟨gT,0,none⟩) n c] w fun e w' =>
 e=.returned (.func (.func 197) #[] #[.pointer (some ⟨w.heap.size,0,none⟩)])∧w'=w.alloc (.cells #[.slice (some ⟨gT,0,none⟩) n c] 40):=by
 go_enter Tryz.func145,Tryz.ntmps145;go_wp2;go_ret;exact⟨by simp,rfl⟩
end Go.Proofs.YtnakejhohdbfdacGreatDoor
namespace Go.Proofs.YtnakejhohdbfdacGreatDoor
open Go.RowKit Go.Shelf
theorem wpIn_range_al {σ α:Type}{F:Fence}{n:Nat}{P:Program}{g:Operand}{ps:Array Tmp}{assign body:Code}{Q:Exit→Act→World→Prop}{a:Act}{w:World}
 (hro:F.round=none) (h1:1≤n) {gf:Nat} {lb:Array Value} (hg:a.eval g=.func (.func gf) #[] lb) (hFg:F.fn gf) (eg:∀args w,(callFunc gf args).run P w=.ok (.enter gf args) w)
 {encs:α→Array Value} (hps:∀x,(encs x).size=ps.size)
 (V:σ→World→Prop) (hVs:∀s A,V s A→w.heap.size≤A.heap.size) (hV:∀s A B,V s A→Below w.heap.size A B→V s B) (ok:σ→α→Prop) (nx:σ→α→σ) (s0 s1:σ)
 (hseq:∀(l:Nat) (V':σ→World→Prop) (W:World),(∀s A,V' s A→V s A)→(∀s A B,V' s A→Fr [] A B→V' s B) →
   (∀s x A,V' s A→ok s x→YieldAt F (n - 1 - 1) P l (encs x) A fun e B=>e=.returned (.bool true)∧V' (nx s x) B)→V' s0 W →
   CallsIn F (n - 1) P gf (#[.func (.yield l) #[] #[]]++lb) W fun e B=>(∃v,e=.returned v)∧V' s1 B)
 (o:α→Obj) (a₁:α→Nat→Act) (h0:V s0 w)
 (hassign:∀(l:Nat) (x:α) (W:World) (K:Act→World→Prop),K (a₁ x W.heap.size) (W.alloc (o x)) →
   assign.wpIn (F.inRound l) (n - 1 - 1) P (Exit.then K (fun _ _ _=>False)) { tmps:=(ps.zip (encs x)).foldl (fun t (p,v)=>t.setIfInBounds p v) a.tmps,defers:=[] } W)
 (hbody:∀(l:Nat) (s:σ) (x:α) (A:World) (b:Nat),V s A→ok s x→A.heap[b]?=some (o x)→w.heap.size+2≤b→body.wpIn (F.inRound l) (n - 1 - 1) P (stPost w.heap.size V (nx s x) A) (a₁ x b) A)
 (hdone:∀(D:Nat) (A:World),V s1 A→w.heap.size≤D→A.heap[D]?=some (.deferred (some []))→Q .normal { a with defers:={ target:=.collected D,args:=#[] } :: a.defers } A) :
 (Code.rangeFunc g ps assign body).wpIn F n P Q a w:=by
 refine wpIn_rangeFunc ?_;intro fn hfn;rw[hro];obtain⟨rec,hrec⟩:∃rec:LoopState→Option Code→Loop,rec=fun st pe=>{ state:=st,pending:=pe,fn,tmps:=a.tmps,params:=ps,assign,body,defers:=w.heap.size }:=⟨_,rfl⟩
 obtain⟨W1,hW1⟩:∃W1,(w.alloc (.deferred (some []))).alloc (.loop (rec .ready none))=W1:=⟨_,rfl⟩;have hL1:W1.heap[w.heap.size+1]?=some (.loop (rec .ready none)):=by
  rw[←hW1];have:=World.alloc_heap_new (w.alloc (.deferred (some []))) (.loop (rec .ready none));rwa [World.size_alloc]at this
 have hK1:W1.heap[w.heap.size]?=some (.deferred (some [])):=by
  rw[←hW1];exact(Below.heap_alloc _ _ _ (by simp)).trans (World.alloc_heap_new w _)
 have hI1:V s0 W1:=by
  rw[←hW1];exact hV _ _ _ h0 (((Below.refl _ w).alloc (Nat.le_refl _) _).alloc (by simp) _)
 let V':σ→World→Prop:=fun s A=>V s A∧A.heap[w.heap.size+1]?=some (.loop (rec .ready none))∧A.heap[w.heap.size]?=some (.deferred (some []))
 refine⟨w.heap.size+1,[{ target:=.collected w.heap.size,args:=#[] }],W1,{ target:=.fn (.func gf) lb,args:=#[.func (.yield (w.heap.size+1)) #[] #[]] },W1,gf,
  #[.func (.yield (w.heap.size+1)) #[] #[]]++lb,W1,?_,?_,?_,?_,fun _=>h1,?_⟩
 ·rw[←hW1,hrec];exact run_enterLoop_outer _ _ _ _ _
 ·simp only[resolve,hg]
  simp[go_sem]
 ·intro f' hf';simp[Target.leads]at hf';subst hf';exact hFg
 ·simp[invoke,go_sem,eg]
 ·refine(hseq (w.heap.size+1) V' W1 (fun s A h=>h.1) (fun s A B h hf=>?_) ?_ ⟨hI1,hL1,hK1⟩).mono ?_
  ·obtain⟨k1,k2,k3⟩:=h
   exact⟨hV _ _ _ k1 (fr0_below hf (hVs _ _ k1)),(hf.block _ (Array.getElem?_eq_some_iff.1 k2).1 List.not_mem_nil).trans k2,(hf.block _ (Array.getElem?_eq_some_iff.1 k3).1 List.not_mem_nil).trans k3⟩
  ·rintro s x W ⟨hi,hl,hk⟩ hok
   have hlt:w.heap.size+1<W.heap.size:=(Array.getElem?_eq_some_iff.1 hl).1;have hy:=run_yield (P:=P) (args:=encs x) hl (by rw[hrec];exact hps x);rw[hrec]at hy;have hla:(W.alloc (o x)).heap[w.heap.size+1]?=some (.loop (rec .ready none)):=(Below.heap_alloc _ _ _ hlt).trans hl;refine⟨fn,_,assign,body,hy,roundIn_of_wpIn hfn (hassign _ x W _ ⟨_,run_beginRound hla (by rw[hrec]),?_⟩)⟩;have hlt2:w.heap.size+1<(W.alloc (o x)).heap.size:=by rw[World.size_alloc];omega
   have hl2:((W.alloc (o x)).putObj (w.heap.size+1) (.loop { rec .ready none with state:=.busy })).heap[w.heap.size+1]?=some (.loop { rec .ready none with state:=.busy }):=World.putObj_heap_same hlt2;have hk2:((W.alloc (o x)).putObj (w.heap.size+1) (.loop { rec .ready none with state:=.busy })).heap[w.heap.size]?=some (.deferred (some [])):=(World.putObj_heap_other (by omega)).trans ((Below.heap_alloc _ _ _ (by omega)).trans hk);have hb2:((W.alloc (o x)).putObj (w.heap.size+1) (.loop { rec .ready none with state:=.busy })).heap[W.heap.size]?=some (o x):=(World.putObj_heap_other (by omega)).trans (World.alloc_heap_new W _);refine wpIn_mono (hbody _ s x _ W.heap.size (hV _ _ _ (hV _ _ _ hi ((Below.refl _ W).alloc (by omega) _)) (below_put (by omega) _)) hok hb2 (by omega)) ?_;rintro e a3 W3 hp;cases e with
   | normal =>
     obtain⟨hkeep,hi3⟩:=hp;have hl3:=(hkeep (w.heap.size+1) (by omega) (by rw[World.putObj_size];exact hlt2)).trans hl2;have hk3:=(hkeep w.heap.size (by omega) (by rw[World.putObj_size];omega)).trans hk2;have hr:=run_endRound (P:=P) none hl3;rw[hrec]at hr hl3;refine⟨_,_,hr,rfl,hV _ _ _ hi3 (below_put (by omega) _),?_,(World.putObj_heap_other (by omega)).trans hk3⟩;rw[hrec];exact World.putObj_heap_same (Array.getElem?_eq_some_iff.1 hl3).1
   | ret=>exact hp.elim
   | exit id=>exact hp.elim
   | goto t=>exact hp.elim
   | panic ch=>exact hp.elim
   | outgrown=>exact hp.elim
  ·rintro e W2 ⟨⟨v,rfl⟩,hi,hl,hk⟩
   exact⟨none,_,by have:=run_endLoop (P:=P) hl (by rw[hrec];simp);rw[hrec]at this;exact this,hdone _ _ (hV _ _ _ hi (below_put (by omega) _)) (Nat.le_refl _) ((World.putObj_heap_other (by omega)).trans hk)⟩
end Go.Proofs.YtnakejhohdbfdacGreatDoor
namespace Go.Proofs.YtnakejhohdbfdacGreatDoor
open Go.RowKit Lev Lay Bnd Go.Shelf
def mixL (K LV:List Int)(bs:Int)(ed:Nat→Bool)(j:Nat):List Int:=(List.range LV.length).map (fun i=>if j≤i then elv K LV bs ed i else nth LV i)
theorem mixL_len (K LV:List Int)(bs:Int)(ed:Nat→Bool)(j:Nat):(mixL K LV bs ed j).length=LV.length:=by simp[mixL]
theorem mixL_at {K LV:List Int}{bs:Int}{ed:Nat→Bool}{j i:Nat}(h:i<LV.length):nth (mixL K LV bs ed j) i=if j≤i then elv K LV bs ed i else nth LV i:=by simp[nth,mixL,h]
theorem nth_ext {a b:List Int}(hl:a.length=b.length)(h:∀i,i<a.length→nth a i=nth b i):a=b:=by
 refine List.ext_getElem? (fun i=>?_);by_cases hi:i<a.length
 ·have h1:=h i hi
  rw[nth,nth,List.getElem?_eq_getElem hi,List.getElem?_eq_getElem (by omega)]at h1;rw[List.getElem?_eq_getElem hi,List.getElem?_eq_getElem (by omega)];exact congrArg some h1
 ·rw[List.getElem?_eq_none (by omega),List.getElem?_eq_none (by omega)]
theorem mixL_start (K LV:List Int)(bs:Int)(ed:Nat→Bool):mixL K LV bs ed LV.length=LV:=by
 refine nth_ext (mixL_len _ _ _ _ _) (fun i hi=>?_);rw[mixL_len]at hi;rw[mixL_at hi,if_neg (by omega)]
theorem mixL_all {K LV:List Int}{bs:Int}{ed:Nat→Bool}{i:Nat}(h:i<LV.length):nth (mixL K LV bs ed 0) i=elv K LV bs ed i:=by rw[mixL_at h,if_pos (Nat.zero_le _)]
theorem mixL_yes {K LV:List Int}{bs:Int}{ed:Nat→Bool}{j:Nat}(he:endAt K ed j=true):(mixL K LV bs ed (j+1)).set j bs=mixL K LV bs ed j:=by
 refine nth_ext (by rw[List.length_set,mixL_len,mixL_len]) (fun i hi=>?_);rw[List.length_set,mixL_len]at hi;rw[mixL_at hi];by_cases hij:i=j
 ·subst hij
  rw[if_pos (Nat.le_refl _),elv,if_pos he,nth,List.getElem?_set_self (by rw[mixL_len];exact hi)];rfl
 ·rw[nth,List.getElem?_set_ne (fun e=>hij e.symm),←nth,mixL_at hi]
  by_cases h1:j≤i
  ·rw[if_pos h1,if_pos (by omega)]
  ·rw[if_neg h1,if_neg (by omega)]
theorem mixL_no {K LV:List Int}{bs:Int}{ed:Nat→Bool}{j:Nat}(he:endAt K ed j=false):mixL K LV bs ed (j+1)=mixL K LV bs ed j:=by
 refine nth_ext (by rw[mixL_len,mixL_len]) (fun i hi=>?_);rw[mixL_len]at hi;rw[mixL_at hi,mixL_at hi];by_cases hij:i=j
 ·subst hij
  rw[if_pos (Nat.le_refl _),if_neg (by omega),elv,if_neg (by rw[he];exact Bool.false_ne_true)]
 ·by_cases h1:j≤i
  ·rw[if_pos h1,if_pos (by omega)]
  ·rw[if_neg h1,if_neg (by omega)]
structure VE (w:World)(N gT n cT:Nat)(R:List Int)(p:Nat→Nat)(gL cL:Nat)(bs:Int)(ge m ce:Nat)(Ed K LV:List Int)(ed:Nat→Bool)(j:Nat)(A:World):Prop where
 v:VT gT n cT R p (w.heap.size+4) A
 b0:A.cell? ⟨w.heap.size,0,none⟩=some (.slice (some ⟨gL,0,none⟩) n cL)
 b1:A.cell? ⟨w.heap.size+1,0,none⟩=some (.int .i64 bs)
 b2:A.cell? ⟨w.heap.size+2,0,none⟩=some (.slice (some ⟨ge,0,none⟩) m ce)
 b3:A.cell? ⟨w.heap.size+3,0,none⟩=some (.bool (endAt K ed j))
 f3:A.frozen? ⟨w.heap.size+3,0,none⟩=false
 e:rowAt A ge m Ed
 l:rowAt A gL n (mixL K LV bs ed j)
 lf:soft A gL n
 f:Fr [gL] w A
 n:N≤A.heap.size
theorem VE.below {w:World}{N gT n cT:Nat}{R:List Int}{p:Nat→Nat}{gL cL:Nat}{bs:Int}{ge m ce:Nat}{Ed K LV:List Int}{ed:Nat→Bool}{j:Nat}{A B:World}(h:VE w N gT n cT R p gL cL bs ge m ce Ed K LV ed j A)(hN:N=w.heap.size+5)(hT:gT<w.heap.size)(hL:gL<w.heap.size)(hE:ge<w.heap.size)(hb:Below N A B):VE w N gT n cT R p gL cL bs ge m ce Ed K LV ed j B:=by
 have hf:=fr_of_below hb;have z:∀ {k},k<N→k ∉ (List.range A.heap.size).filter (fun k=>decide (N≤k)):=fun hk=>not_late (by omega)
 refine⟨⟨h.v.t.fr hf (z (by omega)),hf.cell h.v.b (z (by omega))⟩,hf.cell h.b0 (z (by omega)),hf.cell h.b1 (z (by omega)),hf.cell h.b2 (z (by omega)),hf.cell h.b3 (z (by omega)),hf.froz h.b3 (z (by omega)) h.f3,h.e.fr hf (z (by omega)),h.l.fr hf (z (by omega)),fun i hi=>hf.froz (h.l i hi) (z (by omega)) (h.lf i hi),?_,by have:=h.n;have:=hb.size;omega⟩;exact⟨hb.os.trans h.f.os,hb.tape.trans h.f.tape,hb.output.trans h.f.output,Nat.le_trans h.f.size hb.size,fun k hk hm=>(hb.block k (by omega)).trans (h.f.block k hk hm)⟩
theorem VE.no {w:World}{N gT n cT:Nat}{R:List Int}{p:Nat→Nat}{gL cL:Nat}{bs:Int}{ge m ce:Nat}{Ed K LV:List Int}{ed:Nat→Bool}{x:Nat}{A B:World}(h:VE w N gT n cT R p gL cL bs ge m ce Ed K LV ed (x+1) A)(hN:N=w.heap.size+5)(hT:gT<w.heap.size)(hL:gL<w.heap.size)(hE:ge<w.heap.size)(he:endAt K ed x=false)(hG:Fr [] A B) :
 (∀k,N≤k→k<A.heap.size→(B.setCell ⟨w.heap.size+3,0,none⟩ (.bool false)).heap[k]?=A.heap[k]?)∧VE w N gT n cT R p gL cL bs ge m ce Ed K LV ed x (B.setCell ⟨w.heap.size+3,0,none⟩ (.bool false)):=by
 have hf:Fr [w.heap.size+3] A (B.setCell ⟨w.heap.size+3,0,none⟩ (.bool false)):=(hG.mono (fun _ h _=>absurd h List.not_mem_nil):Fr [w.heap.size+3] A B).set (List.mem_singleton.2 rfl) _;have z:∀ {k},k≠w.heap.size+3→k ∉ [w.heap.size+3]:=fun hk hm=>hk (List.mem_singleton.1 hm)
 have c3:=hG.cell h.b3 List.not_mem_nil;have f3:=hG.froz h.b3 List.not_mem_nil h.f3;refine⟨fun k hk hk2=>hf.block k hk2 (z (by omega)),⟨h.v.t.fr hf (z (by omega)),hf.cell h.v.b (z (by omega))⟩,hf.cell h.b0 (z (by omega)),hf.cell h.b1 (z (by omega)),hf.cell h.b2 (z (by omega)),?_,?_,h.e.fr hf (z (by omega)),?_,fun i hi=>hf.froz (h.l i hi) (z (by omega)) (h.lf i hi),?_,by have:=h.n;have:=hf.size;omega⟩
 ·rw[he];exact World.cell?_setCell_same' _ _ _ (by rw[c3];rfl)
 ·simpa using f3
 ·rw[←mixL_no he];exact h.l.fr hf (z (by omega))
 ·exact((h.f.mono (fun a ha _=>List.mem_append_left [w.heap.size+3] ha):Fr ([gL]++[w.heap.size+3]) w A).trans (hf.mono (fun a ha _=>List.mem_append_right [gL] ha))).mono (fun a ha hlt=>by rcases List.mem_append.1 ha with h1 | h1;exact h1;have:=List.mem_singleton.1 h1;omega)
theorem VE.yes {w:World}{N gT n cT:Nat}{R:List Int}{p:Nat→Nat}{gL cL:Nat}{bs:Int}{ge m ce:Nat}{Ed K LV:List Int}{ed:Nat→Bool}{x:Nat}{A B:World}(h:VE w N gT n cT R p gL cL bs ge m ce Ed K LV ed (x+1) A)(hx:x<n)(hLV:LV.length=n)(hN:N=w.heap.size+5)(hT:gT<w.heap.size)(hL:gL<w.heap.size)(hE:ge<w.heap.size)(hgE:ge≠gL)(hgT:gT≠gL)(he:endAt K ed x=true)(hG:Fr [] A B) :
 (∀k,N≤k→k<A.heap.size→((B.setCell ⟨w.heap.size+3,0,none⟩ (.bool true)).setCell ⟨gL,x,none⟩ (.int .i64 bs)).heap[k]?=A.heap[k]?)∧VE w N gT n cT R p gL cL bs ge m ce Ed K LV ed x ((B.setCell ⟨w.heap.size+3,0,none⟩ (.bool true)).setCell ⟨gL,x,none⟩ (.int .i64 bs)):=by
 have hf1:Fr [w.heap.size+3] A (B.setCell ⟨w.heap.size+3,0,none⟩ (.bool true)):=(hG.mono (fun _ h _=>absurd h List.not_mem_nil):Fr [w.heap.size+3] A B).set (List.mem_singleton.2 rfl) _;have hf:Fr [w.heap.size+3,gL] A ((B.setCell ⟨w.heap.size+3,0,none⟩ (.bool true)).setCell ⟨gL,x,none⟩ (.int .i64 bs)):=(hf1.mono (fun a ha _=>by simp at ha;simp[ha])).set (by simp) _;have z1:∀ {k},k≠w.heap.size+3→k ∉ [w.heap.size+3]:=fun hk hm=>hk (List.mem_singleton.1 hm)
 have z:∀ {k},k≠w.heap.size+3→k≠gL→k ∉ [w.heap.size+3,gL]:=fun hk hk2 hm=>by simp at hm;omega
 have c3:=hG.cell h.b3 List.not_mem_nil;have f3:=hG.froz h.b3 List.not_mem_nil h.f3;have g2:Fr [gL] (B.setCell ⟨w.heap.size+3,0,none⟩ (.bool true)) ((B.setCell ⟨w.heap.size+3,0,none⟩ (.bool true)).setCell ⟨gL,x,none⟩ (.int .i64 bs)):=(Fr.refl [gL] _).set (List.mem_singleton.2 rfl) _;have n3:w.heap.size+3 ∉ [gL]:=fun hm=>by have:=List.mem_singleton.1 hm;omega
 have c3':(B.setCell ⟨w.heap.size+3,0,none⟩ (.bool true)).cell? ⟨w.heap.size+3,0,none⟩=some (.bool true):=World.cell?_setCell_same' _ _ _ (by rw[c3];rfl);have hl1:rowAt (B.setCell ⟨w.heap.size+3,0,none⟩ (.bool true)) gL n (mixL K LV bs ed (x+1)):=h.l.fr hf1 (z1 (by omega));refine⟨fun k hk hk2=>hf.block k hk2 (z (by omega) (by omega)),⟨h.v.t.fr hf (z (by omega) hgT),hf.cell h.v.b (z (by omega) (by omega))⟩,hf.cell h.b0 (z (by omega) (by omega)),hf.cell h.b1 (z (by omega) (by omega)),hf.cell h.b2 (z (by omega) (by omega)),?_,?_,h.e.fr hf (z (by omega) hgE),?_,?_,?_,by have:=h.n;have:=hf.size;omega⟩
 ·rw[he];exact g2.cell c3' n3
 ·exact g2.froz c3' n3 (by simpa using f3)
 ·rw[←mixL_yes he];exact hl1.set hx (by rw[mixL_len];exact hLV) bs
 ·intro i hi
  have hfz:=hf1.froz (h.l i hi) (z1 (by omega)) (h.lf i hi);simpa using hfz
 ·exact((h.f.mono (fun a ha _=>List.mem_append_left [w.heap.size+3,gL] ha):Fr ([gL]++[w.heap.size+3,gL]) w A).trans (hf.mono (fun a ha _=>List.mem_append_right [gL] ha))).mono (fun a ha hlt=>by simp at ha ⊢;omega)
attribute [local go_sem] Oper.semAt_some
set_option maxRecDepth 100000 in
set_option maxHeartbeats 4000000 in
theorem ends_any (gT n cT:Nat)(R:List Int)(p:Nat→Nat)(gL cL ge m ce:Nat)(bs z:Int)(Ed K LV:List Int)(ed:Nat→Bool)(w:World)(hn0:0<n)(hn:n≤1000)(hK:K.length=n)(hLV:LV.length=n)(hm0:0<m)(hm:m=Ed.length)(hm1:m≤1000)(hr:Rises Ed z)
 (hT:rnAt w gT n R p) (hL:rowAt w gL n LV) (hLf:soft w gL n) (hE:rowAt w ge m Ed) (hgE:ge≠gL) (hgT:gT≠gL)
 (H113:∀x,x<n→∀X:World,Fr [gL] w X→Calls Tryz.prog 22 #[.int .i32 (nth R x)] X fun e w'=>e=.returned (.int .i64 (nth K x))∧Fr [] X w')
 (hed:∀x,x<n→Ed.contains ((p (x+1):Nat):Int)=ed (x+1)) (hed0:endAt K ed n=false) :
 Calls Tryz.prog 112 #[.slice (some ⟨gT,0,none⟩) n cT,.slice (some ⟨gL,0,none⟩) n cL,.int .i64 bs,.slice (some ⟨ge,0,none⟩) m ce] w fun e w'=>e=.returned (.tuple #[])∧rowAt w' gL n (mixL K LV bs ed 0)∧Fr [gL] w w':=by
 have hTw:gT<w.heap.size:=World.block_lt_of_cell? _ _ (hT 0 hn0).1;have hLw:gL<w.heap.size:=World.block_lt_of_cell? _ _ (hL 0 hn0);have hEw:ge<w.heap.size:=World.block_lt_of_cell? _ _ (hE 0 hm0);have HST:=hid (fun w=>fn198_any gT n cT w);have H159:=hid (fun(y:Int) (X:World) (h:rowAt X ge m Ed)=>by have h5:=search_l Ed z hr y ge ce X (by omega) (by rw[←hm];exact h);rw[←hm]at h5;exact h5);have HC:=hid H113;have HED:=hid hed;have HKL:=hid hK;have HT:=hid hT;have HL:=hid (show rowAt w gL n (mixL K LV bs ed n) by rw[←hLV,mixL_start,hLV];exact hL);have HLF:=hid hLf;have HE:=hid hE;have HE0:=hid hed0;have HLV:=hid hLV;clear hT hL hLf hE H113 hed hr hed0 hm hK hLV;refine(callsIn_wide (n:=3)).1 ?_;refine callsIn_of_wp_marks Tryz.func112 rfl trivial ?_ rfl;simp only[Tryz.ntmps112,List.size_toArray,List.length_cons,List.length_nil,Nat.reduceAdd,Nat.reduceSub,Array.replicate_succ,Array.replicate_zero,List.push_toArray,List.append_toArray,List.nil_append,List.cons_append];gi_wp2_with (refine⟨trivial,?_⟩;gi_at_call 145;refine(callsIn_wide.2 (HST.out _)).mono ?_;rintro e w' ⟨rfl,rfl⟩);obtain⟨W0,hW0⟩:∃W0,((((w.alloc (.cells #[.slice (some ⟨gL,0,none⟩) n cL] 32)).alloc (.cells #[.int .i64 bs] 3)).alloc (.cells #[.slice (some ⟨ge,0,none⟩) m ce] 32)).alloc (.cells #[.bool false] 4)).alloc (.cells #[.slice (some ⟨gT,0,none⟩) n cT] 40)=W0:=⟨_,rfl⟩;have hsz:W0.heap.size=w.heap.size+5:=by rw[←hW0];simp
 have hV0:VE w W0.heap.size gT n cT R p gL cL bs ge m ce Ed K LV ed n W0:=by
  have hf:Fr [] w W0:=by rw[←hW0];exact(((((Fr.refl [] w).alloc _).alloc _).alloc _).alloc _).alloc _
  have k0:W0.heap[w.heap.size]?=some (.cells #[.slice (some ⟨gL,0,none⟩) n cL] 32 (0,0)):=by
   rw[←hW0];exact obj_fr (obj_new w _) (((((Fr.refl [] _).alloc _).alloc _).alloc _).alloc _) List.not_mem_nil
  have k1:W0.heap[w.heap.size+1]?=some (.cells #[.int .i64 bs] 3 (0,0)):=by
   have h:=obj_fr (obj_new (w.alloc (.cells #[.slice (some ⟨gL,0,none⟩) n cL] 32)) (.cells #[.int .i64 bs] 3)) ((((Fr.refl [] _).alloc (.cells #[.slice (some ⟨ge,0,none⟩) m ce] 32)).alloc (.cells #[.bool false] 4)).alloc (.cells #[.slice (some ⟨gT,0,none⟩) n cT] 40)) List.not_mem_nil;rw[hW0]at h;simpa using h
  have k2:W0.heap[w.heap.size+2]?=some (.cells #[.slice (some ⟨ge,0,none⟩) m ce] 32 (0,0)):=by
   have h:=obj_fr (obj_new ((w.alloc (.cells #[.slice (some ⟨gL,0,none⟩) n cL] 32)).alloc (.cells #[.int .i64 bs] 3)) (.cells #[.slice (some ⟨ge,0,none⟩) m ce] 32)) (((Fr.refl [] _).alloc (.cells #[.bool false] 4)).alloc (.cells #[.slice (some ⟨gT,0,none⟩) n cT] 40)) List.not_mem_nil;rw[hW0]at h;simpa using h
  have k3:W0.heap[w.heap.size+3]?=some (.cells #[.bool false] 4 (0,0)):=by
   have h:=obj_fr (obj_new (((w.alloc (.cells #[.slice (some ⟨gL,0,none⟩) n cL] 32)).alloc (.cells #[.int .i64 bs] 3)).alloc (.cells #[.slice (some ⟨ge,0,none⟩) m ce] 32)) (.cells #[.bool false] 4)) ((Fr.refl [] _).alloc (.cells #[.slice (some ⟨gT,0,none⟩) n cT] 40)) List.not_mem_nil;rw[hW0]at h;simpa using h
  have k4:W0.heap[w.heap.size+4]?=some (.cells #[.slice (some ⟨gT,0,none⟩) n cT] 40 (0,0)):=by
   have h:=obj_new ((((w.alloc (.cells #[.slice (some ⟨gL,0,none⟩) n cL] 32)).alloc (.cells #[.int .i64 bs] 3)).alloc (.cells #[.slice (some ⟨ge,0,none⟩) m ce] 32)).alloc (.cells #[.bool false] 4)) (.cells #[.slice (some ⟨gT,0,none⟩) n cT] 40);rw[hW0]at h;simpa using h
  exact⟨⟨HT.out.fr hf List.not_mem_nil,obj_cell k4 (i:=0) rfl⟩,obj_cell k0 (i:=0) rfl,obj_cell k1 (i:=0) rfl,obj_cell k2 (i:=0) rfl,by rw[HE0.out];exact obj_cell k3 (i:=0) rfl,obj_froz k3 0,HE.out.fr hf List.not_mem_nil,HL.out.fr hf List.not_mem_nil,fun i hi=>hf.froz (HL.out i hi) List.not_mem_nil (HLF.out i hi),hf.mono (fun _ h _=>absurd h List.not_mem_nil),Nat.le_refl _⟩
 rw[hW0];refine wpIn_range_al rfl (by omega) (gf:=197) (lb:=#[.pointer (some ⟨w.heap.size+4,0,none⟩)]) rfl trivial (enters_of Tryz.func197 (by kernel_rfl) rfl)
  (encs:=fun x:Nat=>#[.int .i64 x,.agg #[.int .i32 (nth R x),.int .i64 (p x:Nat),.int .i64 (p (x+1):Nat)]]) (fun _=>rfl)
  (VE w W0.heap.size gT n cT R p gL cL bs ge m ce Ed K LV ed) (fun _ _ h=>h.n) (fun _ _ _ h hb=>h.below hsz hTw hLw hEw hb)
  (fun j x=>j=x+1∧x<n) (fun _ x=>x) n 0
  (fun l V' W h1 h2 h3 h4=>back_rn gT n cT R p _ (by omega) _ l V' (fun C A h=>(h1 C A h).v) h3 W h4)
  (fun x=>.cells #[.int .i32 (nth R x),.int .i64 (p x:Nat),.int .i64 (p (x+1):Nat)] 48)
  (fun x b=>{ tmps:=#[.slice (some ⟨gT,0,none⟩) n cT,.slice (some ⟨gL,0,none⟩) n cL,.int .i64 bs,.slice (some ⟨ge,0,none⟩) m ce,undef,.pointer (some ⟨w.heap.size,0,none⟩),.pointer (some ⟨w.heap.size+1,0,none⟩),.pointer (some ⟨w.heap.size+2,0,none⟩),.pointer (some ⟨w.heap.size+3,0,none⟩),.int .i64 x,.pointer (some ⟨b,0,none⟩),undef,undef,undef,.slice (some ⟨gT,0,none⟩) n cT,.func (.func 197) #[] #[.pointer (some ⟨w.heap.size+4,0,none⟩)],.int .i64 x,.agg #[.int .i32 (nth R x),.int .i64 (p x:Nat),.int .i64 (p (x+1):Nat)],undef,undef,undef,undef,undef,undef,undef,undef,undef,undef,undef,undef,undef,undef,undef,undef,undef,undef,undef,undef,undef,undef,undef,undef,undef,undef,undef,undef,undef,undef,undef],defers:=[] })
  hV0 ?assign ?body ?done
 case assign =>
  intro l x W K hK;gi_wp2;exact hK
 case body =>
  rintro l j x A b hV ⟨rfl,hx⟩ hob hb;have r0:=obj_cell hob (i:=0) rfl;have HOB:=hid hob;have HV:=hid hV;have H1:=hid (HC.out x hx A hV.f);have HS2:=hid (endAt_step K ed (i:=x) (by rw[HKL.out];exact hx));have HDD:=hid (HED.out x hx);have hxI:(x:Int)<(n:Int):=by omega
  have HTR:=hid (fun X:World=>trails_any (nth K x) X);generalize nth K x=c at *;clear hV0 hW0 HST hob;have R2:=hid (obj_cell HOB.out (i:=2) rfl);have B0:=hid HV.out.b0;have B1:=hid HV.out.b1;have B2:=hid HV.out.b2;have B3:=hid HV.out.b3;have F3:=hid HV.out.f3;have L0:=hid (HV.out.l x hx);have L1:=hid (HV.out.lf x hx);clear hV;have H2:=hid (fun(X:World) (h:rowAt X ge m Ed)=>by have h5:=H159.out ((p (x+1):Nat):Int) X h;rw[HDD.out]at h5;exact h5);generalize cidx Ed ((p (x+1):Nat):Int)=ci at *;have HYES:=hid (fun(B:World) (he:endAt K ed x=true) (hG:Fr [] A B)=>HV.out.yes hx HLV.out hsz hTw hLw hEw hgE hgT he hG);have HNO:=hid (fun(B:World) (he:endAt K ed x=false) (hG:Fr [] A B)=>HV.out.no hsz hTw hLw hEw he hG);by_cases h11:c=11
  ·subst h11
   have HEE:=hid (show endAt K ed x=true by rw[HS2.out];simp[stops]);generalize ed (x+1)=dd at *;generalize endAt K ed (x+1)=e1 at *;gi_wp2_with (first | (refine⟨trivial,?_⟩;gi_at_call 22;refine(CallsIn.inRound l (callsIn_wide.2 H1.out)).mono ?_;rintro e w1 ⟨rfl,hf1⟩;have HF1:=hid hf1;have r2:=hf1.cell R2.out List.not_mem_nil;have d2:=hf1.cell B2.out List.not_mem_nil;have d3:=hf1.cell B3.out List.not_mem_nil;have d4:=hf1.froz B3.out List.not_mem_nil F3.out;have d0:=hf1.cell B0.out List.not_mem_nil;have d1:=hf1.cell B1.out List.not_mem_nil;have l0:=hf1.cell L0.out List.not_mem_nil;have l1:=hf1.froz L0.out List.not_mem_nil L1.out;have HE1:=hid (HV.out.e.fr hf1 List.not_mem_nil);clear hf1) | (refine⟨trivial,?_⟩;gi_at_call 78;refine(CallsIn.inRound l (callsIn_wide.2 (H2.out _ HE1.out))).mono ?_;rintro e w2 ⟨rfl,q,rfl⟩) | (refine⟨trivial,?_⟩;gi_at_call 146;refine(CallsIn.inRound l (callsIn_wide.2 (HTR.out _))).mono ?_;rintro e w3 ⟨rfl,rfl⟩) | (refine⟨trivial,?_⟩));exact HYES.out _ HEE.out (HF1.out.trans (fr_drewN _ _))
  ·by_cases h10:c=10
   ·subst h10
    have HEE:=hid (show endAt K ed x=true by rw[HS2.out];simp[stops]);generalize ed (x+1)=dd at *;generalize endAt K ed (x+1)=e1 at *;gi_wp2_with (first | (refine⟨trivial,?_⟩;gi_at_call 22;refine(CallsIn.inRound l (callsIn_wide.2 H1.out)).mono ?_;rintro e w1 ⟨rfl,hf1⟩;have HF1:=hid hf1;have r2:=hf1.cell R2.out List.not_mem_nil;have d2:=hf1.cell B2.out List.not_mem_nil;have d3:=hf1.cell B3.out List.not_mem_nil;have d4:=hf1.froz B3.out List.not_mem_nil F3.out;have d0:=hf1.cell B0.out List.not_mem_nil;have d1:=hf1.cell B1.out List.not_mem_nil;have l0:=hf1.cell L0.out List.not_mem_nil;have l1:=hf1.froz L0.out List.not_mem_nil L1.out;have HE1:=hid (HV.out.e.fr hf1 List.not_mem_nil);clear hf1) | (refine⟨trivial,?_⟩;gi_at_call 78;refine(CallsIn.inRound l (callsIn_wide.2 (H2.out _ HE1.out))).mono ?_;rintro e w2 ⟨rfl,q,rfl⟩) | (refine⟨trivial,?_⟩;gi_at_call 146;refine(CallsIn.inRound l (callsIn_wide.2 (HTR.out _))).mono ?_;rintro e w3 ⟨rfl,rfl⟩) | (refine⟨trivial,?_⟩));exact HYES.out _ HEE.out (HF1.out.trans (fr_drewN _ _))
   ·have hb11:(c == 11)=false:=by simp[h11]
    have hb10:(c == 10)=false:=by simp[h10]
    have HEE:=hid (show endAt K ed x=(trail c && (endAt K ed (x+1) || ed (x+1))) by rw[HS2.out];simp[stops,h11,h10]);generalize ed (x+1)=dd at *;generalize endAt K ed (x+1)=e1 at *;generalize trail c=tr at *;cases tr
    ·gi_wp2_with (first | (refine⟨trivial,?_⟩;gi_at_call 22;refine(CallsIn.inRound l (callsIn_wide.2 H1.out)).mono ?_;rintro e w1 ⟨rfl,hf1⟩;have HF1:=hid hf1;have r2:=hf1.cell R2.out List.not_mem_nil;have d2:=hf1.cell B2.out List.not_mem_nil;have d3:=hf1.cell B3.out List.not_mem_nil;have d4:=hf1.froz B3.out List.not_mem_nil F3.out;have d0:=hf1.cell B0.out List.not_mem_nil;have d1:=hf1.cell B1.out List.not_mem_nil;have l0:=hf1.cell L0.out List.not_mem_nil;have l1:=hf1.froz L0.out List.not_mem_nil L1.out;have HE1:=hid (HV.out.e.fr hf1 List.not_mem_nil);clear hf1) | (refine⟨trivial,?_⟩;gi_at_call 78;refine(CallsIn.inRound l (callsIn_wide.2 (H2.out _ HE1.out))).mono ?_;rintro e w2 ⟨rfl,q,rfl⟩) | (refine⟨trivial,?_⟩;gi_at_call 146;refine(CallsIn.inRound l (callsIn_wide.2 (HTR.out _))).mono ?_;rintro e w3 ⟨rfl,rfl⟩) | (refine⟨trivial,?_⟩))
     exact HNO.out _ (by rw[HEE.out];rfl) (HF1.out.trans (fr_drewN _ _))
    ·cases e1
     ·cases dd
      ·gi_wp2_with (first | (refine⟨trivial,?_⟩;gi_at_call 22;refine(CallsIn.inRound l (callsIn_wide.2 H1.out)).mono ?_;rintro e w1 ⟨rfl,hf1⟩;have HF1:=hid hf1;have r2:=hf1.cell R2.out List.not_mem_nil;have d2:=hf1.cell B2.out List.not_mem_nil;have d3:=hf1.cell B3.out List.not_mem_nil;have d4:=hf1.froz B3.out List.not_mem_nil F3.out;have d0:=hf1.cell B0.out List.not_mem_nil;have d1:=hf1.cell B1.out List.not_mem_nil;have l0:=hf1.cell L0.out List.not_mem_nil;have l1:=hf1.froz L0.out List.not_mem_nil L1.out;have HE1:=hid (HV.out.e.fr hf1 List.not_mem_nil);clear hf1) | (refine⟨trivial,?_⟩;gi_at_call 78;refine(CallsIn.inRound l (callsIn_wide.2 (H2.out _ HE1.out))).mono ?_;rintro e w2 ⟨rfl,q,rfl⟩) | (refine⟨trivial,?_⟩;gi_at_call 146;refine(CallsIn.inRound l (callsIn_wide.2 (HTR.out _))).mono ?_;rintro e w3 ⟨rfl,rfl⟩) | (refine⟨trivial,?_⟩))
       exact HNO.out _ (by rw[HEE.out];rfl) (HF1.out.trans (fr_drewN _ _))
      ·gi_wp2_with (first | (refine⟨trivial,?_⟩;gi_at_call 22;refine(CallsIn.inRound l (callsIn_wide.2 H1.out)).mono ?_;rintro e w1 ⟨rfl,hf1⟩;have HF1:=hid hf1;have r2:=hf1.cell R2.out List.not_mem_nil;have d2:=hf1.cell B2.out List.not_mem_nil;have d3:=hf1.cell B3.out List.not_mem_nil;have d4:=hf1.froz B3.out List.not_mem_nil F3.out;have d0:=hf1.cell B0.out List.not_mem_nil;have d1:=hf1.cell B1.out List.not_mem_nil;have l0:=hf1.cell L0.out List.not_mem_nil;have l1:=hf1.froz L0.out List.not_mem_nil L1.out;have HE1:=hid (HV.out.e.fr hf1 List.not_mem_nil);clear hf1) | (refine⟨trivial,?_⟩;gi_at_call 78;refine(CallsIn.inRound l (callsIn_wide.2 (H2.out _ HE1.out))).mono ?_;rintro e w2 ⟨rfl,q,rfl⟩) | (refine⟨trivial,?_⟩;gi_at_call 146;refine(CallsIn.inRound l (callsIn_wide.2 (HTR.out _))).mono ?_;rintro e w3 ⟨rfl,rfl⟩) | (refine⟨trivial,?_⟩))
       exact HYES.out _ (by rw[HEE.out];rfl) (HF1.out.trans (fr_drewN _ _))
     ·gi_wp2_with (first | (refine⟨trivial,?_⟩;gi_at_call 22;refine(CallsIn.inRound l (callsIn_wide.2 H1.out)).mono ?_;rintro e w1 ⟨rfl,hf1⟩;have HF1:=hid hf1;have r2:=hf1.cell R2.out List.not_mem_nil;have d2:=hf1.cell B2.out List.not_mem_nil;have d3:=hf1.cell B3.out List.not_mem_nil;have d4:=hf1.froz B3.out List.not_mem_nil F3.out;have d0:=hf1.cell B0.out List.not_mem_nil;have d1:=hf1.cell B1.out List.not_mem_nil;have l0:=hf1.cell L0.out List.not_mem_nil;have l1:=hf1.froz L0.out List.not_mem_nil L1.out;have HE1:=hid (HV.out.e.fr hf1 List.not_mem_nil);clear hf1) | (refine⟨trivial,?_⟩;gi_at_call 78;refine(CallsIn.inRound l (callsIn_wide.2 (H2.out _ HE1.out))).mono ?_;rintro e w2 ⟨rfl,q,rfl⟩) | (refine⟨trivial,?_⟩;gi_at_call 146;refine(CallsIn.inRound l (callsIn_wide.2 (HTR.out _))).mono ?_;rintro e w3 ⟨rfl,rfl⟩) | (refine⟨trivial,?_⟩))
      exact HYES.out _ (by rw[HEE.out];rfl) (HF1.out.trans (fr_drewN _ _))
 case done =>
  rintro D A hV hD hKd;have HV:=hid hV;clear hV hV0 hW0;gi_wp2;refine⟨by simp,.inl ⟨_,_,rfl,run_takeDeferred hKd,?_⟩⟩;refine⟨_,results_none rfl _ _ _,rfl,?_,?_⟩
  ·exact(HV.out.below hsz hTw hLw hEw (below_put hD _)).l
  ·exact(HV.out.below hsz hTw hLw hEw (below_put hD _)).f
end Go.Proofs.YtnakejhohdbfdacGreatDoor
namespace Go.Proofs
open Go.Shelf
def Tryz.laysSlE041_f90_ren:Go.Shelf.Ren:=⟨fun | 41=>67 | n=>n,fun | 22=>143 | 23=>69 | 4=>4 | n=>n,fun | n=>n⟩
theorem Tryz.laysSlE041_f90:Go.Proofs.SlLaysE0.n41 Tryz.prog Tryz.laysSlE041_f90_ren:={
 mixed:=by kernel_rfl
 f41:=⟨Tryz.f67.name,by decide,Tryz.func67.trans (congrArg some (by kernel_rfl))⟩
 t4:=Tryz.underlying4
 a4:=Tryz.isAgg4
 z4:=Tryz.sizeOf4
 v4:=Tryz.zeroValue4
 t22:=Tryz.underlying143
 a22:=Tryz.isAgg143
 z22:=Tryz.sizeOf143
 v22:=Tryz.zeroValue143 }
namespace YtnakejhohdbfdacGreatDoor
open Go.RowKit
theorem size2 (w:World):(Go.sizeOf 2).run Tryz.prog w=.ok 1 w:=Tryz.sizeOf2 w
theorem size3 (w:World):(Go.sizeOf 3).run Tryz.prog w=.ok 1 w:=Tryz.sizeOf3 w
theorem size51 (w:World):(Go.sizeOf 69).run Tryz.prog w=.ok 4 w:=Tryz.sizeOf69 w
theorem owns_cells {w:World}{B e size n g cap:Nat}{xs:List Value}(h:w.ownsRow B e size (.slice (some ⟨g,0,none⟩) n cap) n xs):∀j u,xs[j]?=some u→w.cell? ⟨g,0+j,none⟩=some u:=fun j u hj=>by
 have hl:j<xs.length:=(List.getElem?_eq_some_iff.1 hj).1;rw[Nat.zero_add,h.cellAt j (by have:=h.1;omega)];exact hj
theorem clone_i (w:World)(B n:Nat)(v:Value)(xs:List Value)(h:w.ownsRow B 3 1 v n xs)(hn:n≤100000)(h1:∀u∈xs,u.oneCell'=true) :
 Calls Tryz.prog 54 #[v] w fun e w'=>∃v',e=.returned v'∧w'.ownsRow w.heap.size 3 1 v' n xs∧Fr [] w w':=by
 obtain⟨i3,hi3,hz30,hz31,hz32⟩:=info_parts info3
 rcases h.2 with⟨rfl,rfl⟩ | ⟨g,cap,cur,rfl,_⟩
 ·refine(Tryz.slices_Clone_nil_f91 0 0 w).mono ?_
  rintro e w' ⟨rfl,rfl⟩;exact⟨_,rfl,⟨h.1,.inl ⟨rfl,rfl⟩⟩,Fr.refl _ _⟩
 ·refine(Tryz.slices_Clone_f91 i3 _ 1 8 hi3 hz30 hz31 hz32 rfl (by decide) size3 g 0 n cap xs w h.1 (by unfold maxLen;omega) (by omega) (owns_cells h) h1).mono ?_
  rintro e w' ⟨v',rfl,h2,_,h4⟩;exact⟨v',rfl,h2,Fr.of_below h4⟩
theorem clone_x (w:World)(B n:Nat)(v:Value)(xs:List Value)(h:w.ownsRow B 2 1 v n xs)(hn:n≤100000)(h1:∀u∈xs,u.oneCell'=true) :
 Calls Tryz.prog 68 #[v] w fun e w'=>∃v',e=.returned v'∧w'.ownsRow w.heap.size 2 1 v' n xs∧Fr [] w w':=by
 obtain⟨i2,hi2,hz20,hz21,hz22⟩:=info_parts info2
 rcases h.2 with⟨rfl,rfl⟩ | ⟨g,cap,cur,rfl,_⟩
 ·refine(Tryz.slices_Clone_nil_f92 0 0 w).mono ?_
  rintro e w' ⟨rfl,rfl⟩;exact⟨_,rfl,⟨h.1,.inl ⟨rfl,rfl⟩⟩,Fr.refl _ _⟩
 ·refine(Tryz.slices_Clone_f92 i2 _ 1 8 hi2 hz20 hz21 hz22 rfl (by decide) size2 g 0 n cap xs w h.1 (by unfold maxLen;omega) (by omega) (owns_cells h) h1).mono ?_
  rintro e w' ⟨v',rfl,h2,_,h4⟩;exact⟨v',rfl,h2,Fr.of_below h4⟩
theorem clone_l (w:World)(B n:Nat)(v:Value)(xs:List Value)(h:w.ownsRow B 69 4 v n xs)(hn:n≤100000)(h1:∀u∈xs,u.oneCell'=true) :
 Calls Tryz.prog 67 #[v] w fun e w'=>∃v',e=.returned v'∧w'.ownsRow w.heap.size 69 4 v' n xs∧Fr [] w w':=by
 obtain⟨i51,hi51,hx0,hx1,hx2⟩:=info_parts info69
 rcases h.2 with⟨rfl,rfl⟩ | ⟨g,cap,cur,rfl,_⟩
 ·refine(AnyE.slices_Clone_nil Tryz.laysSlE041_f90 0 0 w).mono ?_
  rintro e w' ⟨rfl,rfl⟩;exact⟨_,rfl,⟨h.1,.inl ⟨rfl,rfl⟩⟩,Fr.refl _ _⟩
 ·refine(AnyE.slices_Clone Tryz.laysSlE041_f90 i51 _ 4 64 hi51 hx0 hx1 hx2 rfl (by decide) size51 g 0 n cap xs w h.1 (by unfold maxLen;omega) (by omega) (owns_cells h) h1).mono ?_
  rintro e w' ⟨v',rfl,h2,_,h4⟩;exact⟨v',rfl,h2,Fr.of_below h4⟩
end YtnakejhohdbfdacGreatDoor
end Go.Proofs

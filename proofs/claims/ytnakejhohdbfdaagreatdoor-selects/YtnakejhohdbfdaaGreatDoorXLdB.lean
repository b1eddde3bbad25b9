import Derived.Test.YtnakejhohdbfdaaGreatDoorXMd
import Derived.Test.YtnakejhohdbfdaaGreatDoorXLayB
import Derived.Maps.AppendAt
import Derived.Test.YtnakejhohdbfdaaGreatDoorXLayA
import Derived.Test.YtnakejhohdbfdaaGreatDoorXMb
import Derived.Shelf.Utf8.RuneCount
import Derived.Shelf.Unicode.DecodeSlow
import Derived.Shelf.Slices.Turned
import Derived.Shelf.Slices.Reverse
import Derived.Ground.Names2Prog
import Derived.Shelf.Slices.Clone
import Derived.Shelf.Slices.SearchI
import Derived.Shelf.Slices.Cells
import Derived.Shelf.Slices.Empties
import Derived.Ground.SlgnProg
import Derived.Shelf.SlicesE.Clone
import Derived.Ground.SlgmProg
import Derived.Test.YtnakejhohdbfdaaGreatDoorProg
namespace Go.Proofs.YtnakejhohdbfdaaGreatDoor
open Go.RowKit Lev Lay
def enD (K L:List Int)(base:Int)(b i:Nat):Int:=if(stops (nth K i) || (decide (scan K b i=b) || stops (nth K (scan K b i))))=true then base else nth L i
def enL (K L:List Int)(base:Int)(a b k:Nat):List Int:=(List.range k).map fun d=>enD K L base b (a+d)
theorem enL_snoc (K L:List Int)(base:Int)(a b k:Nat):enL K L base a b (k+1)=enL K L base a b k++[enD K L base b (a+k)]:=by
 rw[enL,List.range_succ,List.map_append];rfl
theorem ints64_snoc (l:List Int)(x:Int):ints64 l++[.int .i64 x]=ints64 (l++[x]):=by simp[ints64]
theorem stops_no {c:Int}(h1:¬c=11)(h2:¬c=10):stops c=false:=by simp[stops,h1,h2]
theorem trail_no {c:Int}(h0:ini c=false)(h1:¬c=22)(h2:¬c=12)(h3:gone c=false):trail c=false:=by simp[trail,h0,h1,h2,h3]
set_option maxRecDepth 10000 in
set_option maxHeartbeats 4000000 in
theorem ended_any (q:PH)(C L:List Int)(G:List Bool)(a b:Nat)(w:World)(hp:PS w q C L G)(hG:∀i,i<q.n→(G[i]?).getD false=gone (nth q.K i))(hab:a≤b)(hb:b≤q.n)(hq:q.n≤1000000) :
 Calls Tryz.prog 164 #[.pointer (some ⟨q.p,0,none⟩),.int .i64 a,.int .i64 b] w fun e w'=>∃v,e=.returned v∧w'.ownsRow w.heap.size 3 1 v (b - a) (ints64 (enL q.K L q.base a b (b - a)))∧Fr [] w w':=by
 obtain⟨i0,hi,hz0,hz1,hz2⟩:=info_parts info3;have HP:=hid hp;have HG:=hid hG;clear hp hG;go_enter Tryz.func164,Tryz.ntmps164;go_wp2_with fail;go_loopw [7,8] (fun v ii wr=>∃k:Nat,a+k≤b∧ii=.int .i64 (a+k:Nat)∧Hid (wr.ownsRow w.heap.size 3 1 v k (ints64 (enL q.K L q.base a b k)))∧Hid (Fr [] w wr)) (fun _ ii _=>b - (intOf ii).toNat)
 case atStart=>exact⟨0,hab,rfl,hid (World.ownsRow_nil _ _ _ _),hid (Fr.refl _ _)⟩
 case round =>
  obtain⟨k,hk,rfl,HO,HF⟩:=hrel;have HPW:=hid (HP.out.fr0 HF.out);by_cases hkb:a+k<b
  ·have c3:=HPW.out.c3
   have c1:=HPW.out.c1;have c5:=HPW.out.c5;have c6:=HPW.out.c6;have d0:=HPW.out.rL (a+k) (by omega);have d1:=HPW.out.rF (a+k) (by omega);have HEN:=hid (show enL q.K L q.base a b (k+1)=enL q.K L q.base a b k++[enD q.K L q.base b (a+k)]from enL_snoc _ _ _ _ _ _);have HED:=hid (show enD q.K L q.base b (a+k)=if(stops (nth q.K (a+k)) || (decide (scan q.K b (a+k)=b) || stops (nth q.K (scan q.K b (a+k)))))=true then q.base else nth L (a+k)from rfl);generalize enD q.K L q.base b (a+k)=Z at HEN HED;have HI0:=hid (show nth q.K (a+k)=nth q.K (a+k)from rfl);generalize hl:nth L (a+k)=lv at d0 HED;clear hl;obtain⟨c0,hc0⟩:∃c0,c0=nth q.K (a+k):=⟨_,rfl⟩;rw[←hc0]at d1 HED;have HC0:=hid hc0;have hkI:((a+k:Nat):Int)<(b:Int):=by omega
   have hnI:((a+k:Nat):Int)<(q.n:Int):=by omega
   have hkM:k≤1000000:=by omega
   have HAK:=hid (show a+(k+1)=(a+k)+1 from rfl);clear hc0 HI0;generalize hii:a+k=i at *;have HII:=hid hii;clear hii;have hsz:=HF.out.size;go_wp2_with fail;go_loop [11] (fun jj=>∃j:Nat,i≤j∧j≤b∧jj=.int .i64 j∧Hid (scan q.K b i=scan q.K b j)) (fun jj=>b - (intOf jj).toNat)
   case atStart=>exact⟨i,Nat.le_refl _,by omega,rfl,rfl⟩
   case round =>
    obtain⟨j,hij,hjb,rfl,HS⟩:=hrel;by_cases hjl:j<b
    ·have hjI:(j:Int)<(b:Int):=by omega
     have hjn:(j:Int)<(q.n:Int):=by omega
     have e1:=HPW.out.rF j (by omega);have e5:=HPW.out.rG j (by omega);rw[HG.out j (by omega)]at e5;obtain⟨c,hc⟩:∃c,c=nth q.K j:=⟨_,rfl⟩;rw[←hc]at e1 e5;have HC:=hid hc;clear hc;have HIN:=hid (ref10_any c);cases ht:trail c
     ·have HSJ:=hid (show scan q.K b i=j by rw[HS.out,scan_stop (by rw[←HC.out];exact ht)])
      have h1:ini c=false:=by cases h:ini c;rfl;rw[trail,h]at ht;simp at ht
      have h2:¬c=22:=fun h=>by rw[trail,h]at ht;simp at ht
      have h3:¬c=12:=fun h=>by rw[trail,h]at ht;simp at ht
      have h4:gone c=false:=by cases h:gone c;rfl;rw[trail,h]at ht;simp at ht
      rw[h1]at HIN;rw[h4]at e5;have h2':(c == 22)=false:=by simp[h2]
      have h3':(c == 12)=false:=by simp[h3]
      have h2n:(c != 22)=true:=by simp[h2]
      have h3n:(c != 12)=true:=by simp[h3]
      rw[HSJ.out,←HC.out,decide_eq_false (by omega)]at HED;clear ht h1 h4;have hcs:(c0=11∧q.base=Z)∨(c0=10∧q.base=Z)∨(¬c0=11∧¬c0=10∧c=11∧q.base=Z)∨(¬c0=11∧¬c0=10∧c=10∧q.base=Z)∨(¬c0=11∧¬c0=10∧¬c=11∧¬c=10∧lv=Z):=by
       by_cases g1:c0=11
       ·exact .inl ⟨g1,by rw[HED.out,g1];rfl⟩
       by_cases g2:c0=10
       ·exact .inr (.inl ⟨g2,by rw[HED.out,g2];rfl⟩)
       by_cases g3:c=11
       ·exact .inr (.inr (.inl ⟨g1,g2,g3,by rw[HED.out,g3,stops_no g1 g2];rfl⟩))
       by_cases g4:c=10
       ·exact .inr (.inr (.inr (.inl ⟨g1,g2,g4,by rw[HED.out,g4,stops_no g1 g2];rfl⟩)))
       exact .inr (.inr (.inr (.inr ⟨g1,g2,g3,g4,by rw[HED.out,stops_no g1 g2,stops_no g3 g4];rfl⟩)))
      have hjb':¬(j:Int)=(b:Int):=by omega
      have hjb2:((j:Int) == (b:Int))=false:=by simp[hjb']
      clear HC0 HC HED
      rcases hcs with⟨rfl,hZ⟩ | ⟨rfl,hZ⟩ | ⟨g1,g2,rfl,hZ⟩ | ⟨g1,g2,rfl,hZ⟩ | ⟨g1,g2,g3,g4,hZ⟩
      case' inr.inr.inl=>have g1':(c0 == 11)=false:=by simp[g1]
      case' inr.inr.inl=>have g2':(c0 == 10)=false:=by simp[g2]
      case' inr.inr.inr.inl=>have g1':(c0 == 11)=false:=by simp[g1]
      case' inr.inr.inr.inl=>have g2':(c0 == 10)=false:=by simp[g2]
      case' inr.inr.inr.inr=>have g1':(c0 == 11)=false:=by simp[g1]
      case' inr.inr.inr.inr=>have g2':(c0 == 10)=false:=by simp[g2]
      case' inr.inr.inr.inr=>have g3':(c == 11)=false:=by simp[g3]
      case' inr.inr.inr.inr=>have g4':(c == 10)=false:=by simp[g4]
      case' inr.inr.inr.inr=>subst hZ
      all_goals first | (rw[hZ]at c6;clear hZ) | skip
      all_goals (
       have HO2:=hid (fun Z'=>HO.out.alloc (.cells #[.int .i64 Z'] 3))
       go_wp2_with (first | (go_at_call 41;refine(HIN.out _).mono ?_;rintro e w' ⟨rfl,rfl⟩) | (at_builtin;refine wpList_append_own _ rfl _ _ 22 rfl w.heap.size 3 i0 _ 1 8 Tryz.underlying22 hi hz0 hz1 hz2 rfl (by decide) _ _ _ rfl (HO2.out _) _ 1 1 [.int .i64 _] rfl rfl (news_at _ _ _ _ (by simp)) (one_cell _) (by unfold maxLen;omega) (by omega) (by simp;omega) ?_))
       intro v' w3 own3 hgrow hnil
       have HF3:=hid ((HF.out.alloc _).grown hgrow (fun x h=>(HO.out.lt x h).1))
       have HO3:=hid (show w3.ownsRow w.heap.size 3 1 v' (k+1) (ints64 (enL q.K L q.base a b (k+1))) by rw[HEN.out,←ints64_snoc];exact own3)
       clear own3 hgrow hnil
       go_wp2
       go_roundw
       case rel=>exact⟨k+1,by rw[HAK.out];omega,by rw[HAK.out];go_num,HO3,HF3⟩
       case measure=>simp[intOf];omega)
     ·have HS2:=hid (show scan q.K b i=scan q.K b (j+1) by rw[HS.out,scan_step hjl (by rw[←HC.out];exact ht)])
      cases h1:ini c
      case' true=>rw[h1]at HIN
      case' false =>
       rw[h1]at HIN;have hr:c=22∨(¬c=22∧(c == 22)=false∧(c=12∨(¬c=12∧(c == 12)=false∧gone c=true))):=by
        by_cases h2:c=22
        ·exact .inl h2
        ·refine .inr ⟨h2,by simp[h2],?_⟩
         by_cases h3:c=12
         ·exact .inl h3
         ·refine .inr ⟨h3,by simp[h3],?_⟩
          cases h4:gone c
          ·rw[trail_no h1 h2 h3 h4]at ht;cases ht
          ·rfl
       rcases hr with rfl | ⟨h2,h2',rfl | ⟨h3,h3',h4⟩⟩
       case' inr.inr=>rw[h4]at e5
      all_goals (
       clear ht
       go_wp2_with (go_at_call 41;refine(HIN.out _).mono ?_;rintro e w' ⟨rfl,rfl⟩)
       go_round
       case rel=>exact⟨j+1,by omega,by omega,by go_num,HS2⟩
       case measure=>simp[intOf];omega)
    ·obtain rfl:b=j:=by omega
     have hcs:(c0=11∧q.base=Z)∨(c0=10∧q.base=Z)∨(¬c0=11∧¬c0=10∧q.base=Z):=by
      have h:=HED.out;rw[HS.out,scan_end,decide_eq_true rfl]at h;have h2:q.base=Z:=by rw[h];simp
      by_cases g1:c0=11
      ·exact .inl ⟨g1,h2⟩
      by_cases g2:c0=10
      ·exact .inr (.inl ⟨g2,h2⟩)
      exact .inr (.inr ⟨g1,g2,h2⟩)
     have HIN:=hid (ref10_any 0);clear HC0 HED
     rcases hcs with⟨rfl,hZ⟩ | ⟨rfl,hZ⟩ | ⟨g1,g2,hZ⟩
     case' inr.inr=>have g1':(c0 == 11)=false:=by simp[g1]
     case' inr.inr=>have g2':(c0 == 10)=false:=by simp[g2]
     all_goals rw[hZ]at c6
     all_goals clear hZ
     all_goals (
      have HO2:=hid (fun Z'=>HO.out.alloc (.cells #[.int .i64 Z'] 3))
      go_wp2_with (first | (go_at_call 41;refine(HIN.out _).mono ?_;rintro e w' ⟨rfl,rfl⟩) | (at_builtin;refine wpList_append_own _ rfl _ _ 22 rfl w.heap.size 3 i0 _ 1 8 Tryz.underlying22 hi hz0 hz1 hz2 rfl (by decide) _ _ _ rfl (HO2.out _) _ 1 1 [.int .i64 _] rfl rfl (news_at _ _ _ _ (by simp)) (one_cell _) (by unfold maxLen;omega) (by omega) (by simp;omega) ?_))
      intro v' w3 own3 hgrow hnil
      have HF3:=hid ((HF.out.alloc _).grown hgrow (fun x h=>(HO.out.lt x h).1))
      have HO3:=hid (show w3.ownsRow w.heap.size 3 1 v' (k+1) (ints64 (enL q.K L q.base a b (k+1))) by rw[HEN.out,←ints64_snoc];exact own3)
      clear own3 hgrow hnil
      go_wp2
      go_roundw
      case rel=>exact⟨k+1,by rw[HAK.out];omega,by rw[HAK.out];go_num,HO3,HF3⟩
      case measure=>simp[intOf];omega)
  ·have hkI:¬((a+k:Nat):Int)<(b:Int):=by omega
   go_wp2;go_ret;exact⟨_,rfl,by rw[show b - a=k by omega];exact HO.out,HF.out⟩
structure Ln where
 f:Int
 t:Int
 o:List Nat
 x:List Int
def clCells:List (Int × Int × Int × Int)→List Value
 | []=>[]
 | x :: l=>.int .i64 x.1 :: .int .i64 x.2.1 :: .int .i64 x.2.2.1 :: .int .i64 x.2.2.2 :: clCells l
theorem clCells_app:∀l m:List (Int × Int × Int × Int),clCells l++clCells m=clCells (l++m)
 | [],_=>rfl
 | x :: l,m=>by simp only[clCells,List.cons_append,clCells_app l m]
theorem clCells_at:∀(l:List (Int × Int × Int × Int)) (i:Nat) (x:Int × Int × Int × Int),l[i]?=some x →
 (clCells l)[i * 4]?=some (.int .i64 x.1)∧(clCells l)[i * 4+1]?=some (.int .i64 x.2.1)∧(clCells l)[i * 4+2]?=some (.int .i64 x.2.2.1)∧(clCells l)[i * 4+3]?=some (.int .i64 x.2.2.2)
 | [],i,x,h=>by simp at h
 | y :: l,0,x,h=>by simp at h;subst h;exact⟨rfl,rfl,rfl,rfl⟩
 | y :: l,i+1,x,h=>by
   have ih:=clCells_at l i x (by simpa using h);rw[show(i+1) * 4=i * 4+1+1+1+1 by omega];exact ih
theorem four_one (a b c d:Int):∀u∈[Value.int .i64 a,.int .i64 b,.int .i64 c,.int .i64 d],u.oneCell'=true:=by
 intro u hu;simp only[List.mem_cons,List.not_mem_nil,or_false]at hu
 rcases hu with rfl | rfl | rfl | rfl <;> rfl
theorem ints64_at {l:List Int}{j:Nat}(h:j<l.length):(ints64 l)[j]?=some (.int .i64 (nth l j)):=by
 rw[ints64,List.getElem?_map,List.getElem?_eq_getElem h];simp[nth,List.getElem?_eq_getElem h]
theorem info2:(Tryz.prog.info? 2).map (fun i=>(i.zero,i.size,i.bytes))=some (some (.int .i64 0),1,8):=by kernel_rfl
theorem info48:(Tryz.prog.info? 48).map (fun i=>(i.zero,i.size,i.bytes))=some (some (.agg #[.int .i64 0,.int .i64 0,.int .i64 0,.int .i64 0]),4,32):=by kernel_rfl
theorem info51:(Tryz.prog.info? 51).map (fun i=>(i.zero,i.size,i.bytes))=some (some (.agg #[.int .i64 0,.int .i64 0,.slice none 0 0,.slice none 0 0]),4,64):=by kernel_rfl
theorem obj_cell {w:World}{b:Nat}{cs:Array Value}{t:TypeId}(h:w.heap[b]?=some (.cells cs t (0,0))){i:Nat}{v:Value}(hv:cs[i]?=some v):w.cell? ⟨b,i,none⟩=some v:=by
 rw[cell_of_row w b i _ t (0,0) h];exact hv
theorem obj_froz {w:World}{b:Nat}{cs:Array Value}{t:TypeId}(h:w.heap[b]?=some (.cells cs t (0,0)))(i:Nat):w.frozen? ⟨b,i,none⟩=false:=frozen_of_row w b i _ t h
theorem obj_lt {w:World}{b:Nat}{o:Obj}(h:w.heap[b]?=some o):b<w.heap.size:=(Array.getElem?_eq_some_iff.1 h).1
theorem obj_fr {S:List Nat}{w w':World}{b:Nat}{o:Obj}(h:w.heap[b]?=some o)(hf:Fr S w w')(hb:b ∉ S):w'.heap[b]?=some o:=(hf.block b (obj_lt h) hb).trans h
theorem obj_new (w:World)(o:Obj):(w.alloc o).heap[w.heap.size]?=some o:=heap_alloc_new w o
theorem obj_set {w:World}{b:Nat}{cs:Array Value}{t:TypeId}(h:w.heap[b]?=some (.cells cs t (0,0)))(i:Nat)(v:Value):(w.setCell ⟨b,i,none⟩ v).heap[b]?=some (.cells (cs.setIfInBounds i v) t (0,0)):=heap_setCell_same w b i cs t v h
theorem step_app {P:Program}{ops:Array Oper}{o:Oper}{a:Act}{w:World}{K:Act→World→Prop}{Q:Exit→Act→World→Prop}{X:Prop}
 (hg:o.guard=none) (s x:Operand) (t:TypeId) (hop:o.op=Op.call { callee:=Callee.builtin Builtin.append,args:=#[s,x],argTypes:=#[t,t] })
 (base:Nat) (e:TypeId) (i:TypeInfo) (z:Value) (size bytes:Nat) (h1:P.underlying t=some (.slice e)) (h2:P.info? e=some i) (h3:i.zero=some z) (h4:i.size=size) (h5:i.bytes=bytes) (h6:z.cells.size=size) (h7:0<size)
 (v:Value) (n:Nat) (xs:List Value) (hs:a.eval s=v) (hown:w.ownsRow base e size v n xs)
 (ad:Addr) (m c:Nat) (news:List Value) (hx:a.eval x=.slice (some ad) m c) (hn:news.length=m * size) (hc:∀j u,news[j]?=some u→w.cell? (ad.add j)=some u) (h1c:∀u∈news,u.oneCell'=true)
 (b1:n+m≤maxLen) (b2:(n+m) * bytes≤140737488355328) (b3:base≤w.heap.size)
 (hK:∀v' w',w'.ownsRow base e size v' (n+m) (xs++news)→w.grownBy w' v.ownBlock→K (a.put o.dst v') w') :
 if Region.wanted o (yielded ops a.tmps)=true then Oper.wp P o a w K Q else X:=by
 have hw:Region.wanted o (yielded ops a.tmps)=true:=by simp[Region.wanted,hg]
 rw[if_pos hw];exact wp_append_own w s x t hop base e i z size bytes h1 h2 h3 h4 h5 h6 h7 v n xs hs hown ad m c news hx hn hc h1c b1 b2 b3 (fun v' w' k2 k3 _=>hK v' w' k2 k3)
theorem run_append_keep {P:Program}(w:World)(base:Nat)(t ty e:TypeId)(i:TypeInfo)(z:Value)(size bytes:Nat)(ht:P.underlying t=some (.slice e))(hi:P.info? e=some i)(hz:i.zero=some z)(hsize:i.size=size)(hby:i.bytes=bytes)(hzs:z.cells.size=size)(hsz:0<size)
 (g n cap:Nat) (xs:List Value) (hown:w.ownsRow base e size (.slice (some ⟨g,0,none⟩) n cap) n xs)
 (a:Addr) (m c:Nat) (news:List Value) (hl:news.length=m * size) (hnews:∀j u,news[j]?=some u→w.cell? (a.add j)=some u) (h1:∀u∈news,u.oneCell'=true) (h63:n+m≤maxLen) (hbytes:(n+m) * bytes≤140737488355328) (hbase:base≤w.heap.size) :
 ∃v' w',(Builtin.append_ #[t,t] ty #[.slice (some ⟨g,0,none⟩) n cap,.slice (some a) m c]).run P w=.ok v' w'∧w'.ownsRow base e size v' (n+m) (xs++news)∧w.grownBy w' (some g)∧∀j u,xs[j]?=some u→w'.cell? ⟨g,j,none⟩=some u:=by
 obtain⟨v',w',hr,h2,h3,_,_⟩:=run_append_own_at (P:=P) w base t ty e i z size bytes ht hi hz hsize hby hzs hsz _ n xs hown a m c news hl hnews h1 h63 hbytes hbase;refine⟨v',w',hr,h2,h3,fun j u hj=>?_⟩;have hjn:j<n * size:=by
  have:=(List.getElem?_eq_some_iff.1 hj).1;rw[hown.1]at this;exact this
 have hold:w.cell? ⟨g,j,none⟩=some u:=by rw[hown.cellAt j hjn];exact hj
 subst hsize;subst hby
 rcases hown.2 with⟨h0,_⟩ | ⟨g',cap',cur,hv,hbg,hg,hnc,hcm,hcs,htake⟩
 ·cases h0
 ·cases hv
  by_cases hroom:n+m≤cap
  ·have hfit:n * i.size+news.length≤cur.size:=by rw[hl,hcs,←Nat.add_mul];exact Nat.mul_le_mul_right _ hroom
   have hr2:=run_append_room (P:=P) w t ty e i ht hi g n cap cur hg a m c news hl hnews h1 hroom hfit;rw[hr]at hr2;cases hr2;have h5:=h2.cellAt j (Nat.lt_of_lt_of_le hjn (Nat.mul_le_mul_right _ (Nat.le_add_right n m)));rw[h5,List.getElem?_append_left (by rw[hown.1];exact hjn)];exact hj
  ·have hsmall:n+m≤9223372036854775807:=by simp only[maxLen]at h63;omega
   have holds:∀j u,xs[j]?=some u→w.cell? ((⟨g,0,none⟩:Addr).add j)=some u:=hown.cells (g:=g) rfl;have hr2:=run_append_grow (P:=P) w t ty e i z ht hi hz ⟨g,0,none⟩ n cap xs hown.1 holds a m c news hl hnews (by omega) (by omega) (growslice_fits (by omega) hbytes);rw[hr]at hr2;cases hr2;exact((World.cell?_of_block (a:=⟨g,j,none⟩) (heap_alloc_old w.drew _ (World.block_lt_of_cell? _ _ hold))).trans hold)
theorem step_keep {P:Program}{ops:Array Oper}{o:Oper}{a:Act}{w:World}{K:Act→World→Prop}{Q:Exit→Act→World→Prop}{X:Prop}
 (hg:o.guard=none) (s x:Operand) (t:TypeId) (hop:o.op=Op.call { callee:=Callee.builtin Builtin.append,args:=#[s,x],argTypes:=#[t,t] })
 (base:Nat) (e:TypeId) (i:TypeInfo) (z:Value) (size bytes:Nat) (h1:P.underlying t=some (.slice e)) (h2:P.info? e=some i) (h3:i.zero=some z) (h4:i.size=size) (h5:i.bytes=bytes) (h6:z.cells.size=size) (h7:0<size)
 (g n cap:Nat) (xs:List Value) (hs:a.eval s=.slice (some ⟨g,0,none⟩) n cap) (hown:w.ownsRow base e size (.slice (some ⟨g,0,none⟩) n cap) n xs)
 (ad:Addr) (m c:Nat) (news:List Value) (hx:a.eval x=.slice (some ad) m c) (hn:news.length=m * size) (hc:∀j u,news[j]?=some u→w.cell? (ad.add j)=some u) (h1c:∀u∈news,u.oneCell'=true)
 (b1:n+m≤maxLen) (b2:(n+m) * bytes≤140737488355328) (b3:base≤w.heap.size)
 (hK:∀v' w',w'.ownsRow base e size v' (n+m) (xs++news)→w.grownBy w' (some g)→(∀j u,xs[j]?=some u→w'.cell? ⟨g,j,none⟩=some u)→K (a.put o.dst v') w') :
 if Region.wanted o (yielded ops a.tmps)=true then Oper.wp P o a w K Q else X:=by
 have hw:Region.wanted o (yielded ops a.tmps)=true:=by simp[Region.wanted,hg]
 rw[if_pos hw];obtain⟨v',w',hr,k2,k3,k5⟩:=run_append_keep (P:=P) w base t o.type e i z size bytes h1 h2 h3 h4 h5 h6 h7 g n cap xs hown ad m c news hn hc h1c b1 b2 b3;unfold Oper.wp execOp;simp only[hop,resolve,invoke,builtin,Sem.run_bind,Sem.run_pure,Result.andThen_ok,List.map_toArray,List.map_cons,List.map_nil,hs,hx,hr];exact hK _ _ k2 k3 k5
def rowO (w:World)(g o n:Nat)(l:List Int):Prop:=∀i,i<n→w.cell? ⟨g,o+i,none⟩=some (.int .i64 (nth l i))
theorem rowO.fr {S:List Nat}{w w':World}{g o n:Nat}{l:List Int}(h:rowO w g o n l)(hf:Fr S w w')(hg:g ∉ S):rowO w' g o n l:=fun i hi=>hf.cell (h i hi) hg
def rowQ (w:World)(g n:Nat)(P:Nat→Nat):Prop:=∀i,i<n→w.cell? ⟨g,i * 3+1,none⟩=some (.int .i64 (P i:Nat))
theorem rowQ.fr {S:List Nat}{w w':World}{g n:Nat}{P:Nat→Nat}(h:rowQ w g n P)(hf:Fr S w w')(hg:g ∉ S):rowQ w' g n P:=fun i hi=>hf.cell (h i hi) hg
def lnsAt (w:World)(B U:Nat)(hs:List Value)(Ls:List Ln):Prop:=∀j l,Ls[j]?=some l→∃vO vX,hs[j * 4]?=some (.int .i64 l.f)∧hs[j * 4+1]?=some (.int .i64 l.t)∧hs[j * 4+2]?=some vO∧hs[j * 4+3]?=some vX∧w.ownsRow B 3 1 vO l.o.length (intsN l.o)∧w.ownsRow B 2 1 vX l.x.length (ints64 l.x)∧(∀g,vO.ownBlock=some g→g<U)∧∀g,vX.ownBlock=some g→g<U
theorem lnsAt.fr {w w':World}{B U:Nat}{hs:List Value}{Ls:List Ln}(h:lnsAt w B U hs Ls)(hf:∀e v n xs,(e=3∨e=2)→(∀g,v.ownBlock=some g→g<U)→w.ownsRow B e 1 v n xs→w'.ownsRow B e 1 v n xs):lnsAt w' B U hs Ls:=by
 intro j l hj;obtain⟨vO,vX,a1,a2,a3,a4,a5,a6,a7,a8⟩:=h j l hj;exact⟨vO,vX,a1,a2,a3,a4,hf 3 _ _ _ (.inl rfl) a7 a5,hf 2 _ _ _ (.inr rfl) a8 a6,a7,a8⟩
theorem lnsAt.mono {w:World}{B U U':Nat}{hs:List Value}{Ls:List Ln}(h:lnsAt w B U hs Ls)(hU:U≤U'):lnsAt w B U' hs Ls:=by
 intro j l hj;obtain⟨vO,vX,a1,a2,a3,a4,a5,a6,a7,a8⟩:=h j l hj;exact⟨vO,vX,a1,a2,a3,a4,a5,a6,fun g hg=>Nat.lt_of_lt_of_le (a7 g hg) hU,fun g hg=>Nat.lt_of_lt_of_le (a8 g hg) hU⟩
structure LD (WB w:World)(U lb:Nat)(s:ByteArray)(base:Int)(vC vL:Value)(Cs:List (Int × Int × Int × Int))(Ls:List Ln)(hs:List Value):Prop where
 fr:Fr [lb] WB w
 lt:lb<WB.heap.size
 obj:w.heap[lb]?=some (.cells #[.string s,.int .i64 base,vC,vL] 46 (0,0))
 ownC:w.ownsRow WB.heap.size 48 4 vC Cs.length (clCells Cs)
 ownL:w.ownsRow WB.heap.size 51 4 vL Ls.length hs
 inn:lnsAt w WB.heap.size U hs Ls
theorem LD.fr0 {WB w w':World}{U lb:Nat}{s:ByteArray}{base:Int}{vC vL:Value}{Cs:List (Int × Int × Int × Int)}{Ls:List Ln}{hs:List Value}(h:LD WB w U lb s base vC vL Cs Ls hs)(hf:Fr [] w w'):LD WB w' U lb s base vC vL Cs Ls hs :=
 ⟨h.fr.trans (hf.mono (fun _ h _=>absurd h List.not_mem_nil)),h.lt,obj_fr h.obj hf List.not_mem_nil,owns_fr0 h.ownC hf,owns_fr0 h.ownL hf,h.inn.fr (fun _ _ _ _ _ _ h=>owns_fr0 h hf)⟩
theorem LD.mono {WB w:World}{U U' lb:Nat}{s:ByteArray}{base:Int}{vC vL:Value}{Cs:List (Int × Int × Int × Int)}{Ls:List Ln}{hs:List Value}(h:LD WB w U lb s base vC vL Cs Ls hs)(hU:U≤U'):LD WB w U' lb s base vC vL Cs Ls hs:=⟨h.fr,h.lt,h.obj,h.ownC,h.ownL,h.inn.mono hU⟩
theorem owns_kind {w w':World}{B e size n:Nat}{v:Value}{xs:List Value}(h:w.ownsRow B e size v n xs){b:Option Nat}(hg:w.grownBy w' b)(hb:∀g,b=some g→∃cs t f,w.heap[g]?=some (.cells cs t f)∧t≠e):w'.ownsRow B e size v n xs:=by
 refine owns_grown h hg (fun g hv e=>?_);obtain⟨cs,t,f,h1,h2⟩:=hb g e.symm
 rcases h.2 with⟨rfl,_⟩ | ⟨g',cap,cur,rfl,_,hg',_⟩
 ·cases hv
 ·simp only[Value.ownBlock,Option.some.injEq]at hv
  subst hv;rw[h1]at hg';cases hg';exact h2 rfl
theorem owns_type {w:World}{B e size n g:Nat}{v:Value}{xs:List Value}(h:w.ownsRow B e size v n xs)(hv:v.ownBlock=some g):∃cs t f,w.heap[g]?=some (.cells cs t f)∧t=e:=by
 rcases h.2 with⟨rfl,_⟩ | ⟨g',cap,cur,rfl,_,hg',_⟩
 ·cases hv
 ·simp only[Value.ownBlock,Option.some.injEq]at hv
  subst hv;exact⟨_,_,_,hg',rfl⟩
theorem grown_set {w:World}{b i:Nat}{v:Value}:w.grownBy (w.setCell ⟨b,i,none⟩ v) (some b) :=
 ⟨rfl,rfl,rfl,by simp,fun k _ hk=>heap_setCell_other w ⟨b,i,none⟩ k v (fun e=>hk (by simp[e]))⟩
theorem LD.grow {WB w w':World}{U lb:Nat}{s:ByteArray}{base:Int}{vC vL:Value}{Cs:List (Int × Int × Int × Int)}{Ls:List Ln}{hs:List Value}(h:LD WB w U lb s base vC vL Cs Ls hs){row:Option Nat}(hg:w.grownBy w' row)(hU:WB.heap.size≤U)
 (hb:∀g,row=some g→U≤g∧∃cs t f,w.heap[g]?=some (.cells cs t f)∧(t=3∨t=2)):LD WB w' U lb s base vC vL Cs Ls hs:=by
 have kC:∀ {e:TypeId} (_:e≠3∧e≠2) g,row=some g→∃cs t f,w.heap[g]?=some (.cells cs t f)∧t≠e:=fun he g hv=>by
  obtain⟨_,cs,t,f,a1,a2⟩:=hb g hv;exact⟨cs,t,f,a1,fun e=>by rcases a2 with a2 | a2 <;> rw[a2]at e <;> first | exact he.1 e.symm | exact he.2 e.symm⟩
 refine⟨h.fr.grown hg (fun g hv=>Nat.le_trans hU (hb g hv).1),h.lt,(hg.block lb (obj_lt h.obj) (fun e=>by have:=(hb lb e.symm).1;have:=h.lt;omega)).trans h.obj,owns_kind h.ownC hg (kC (by decide)),owns_kind h.ownL hg (kC (by decide)),h.inn.fr (fun e v n xs he hv hh=>owns_grown hh hg (fun g h1 h2=>by have:=hv g h1;have:=(hb g h2.symm).1;omega))⟩
theorem LD.push {WB w w1 w2:World}{U lb n:Nat}{s:ByteArray}{base:Int}{vC vL v':Value}{Cs:List (Int × Int × Int × Int)}{Ls:List Ln}{hs:List Value}{a b c d:Int}(h:LD WB w U lb s base vC vL Cs Ls hs)(hn:n=Cs.length)(hf:Fr [] w w1)
 (ho:w2.ownsRow WB.heap.size 48 4 v' (n+1) (clCells Cs++[.int .i64 a,.int .i64 b,.int .i64 c,.int .i64 d])) (hg:w1.grownBy w2 vC.ownBlock) :
 w2.heap[lb]?=some (.cells #[.string s,.int .i64 base,vC,vL] 46 (0,0))∧LD WB (w2.setCell ⟨lb,2,none⟩ v') U lb s base v' vL (Cs++[(a,b,c,d)]) Ls hs∧(∀B e v n xs,e=3∨e=2→w1.ownsRow B e 1 v n xs→(w2.setCell ⟨lb,2,none⟩ v').ownsRow B e 1 v n xs):=by
 subst hn;have h1:=h.fr0 hf;have hk:∀g,vC.ownBlock=some g→WB.heap.size≤g:=fun g hv=>(h1.ownC.lt g hv).1
 have hne:∀g,vC.ownBlock=some g→g≠lb:=fun g hv e=>by have:=hk g hv;have:=h.lt;omega
 have ho2:w2.heap[lb]?=some (.cells #[.string s,.int .i64 base,vC,vL] 46 (0,0)):=(hg.block lb (obj_lt h1.obj) (fun e=>hne lb e.symm rfl)).trans h1.obj;have kC:∀ {e:TypeId} (_:e≠48) g,vC.ownBlock=some g→∃cs t f,w1.heap[g]?=some (.cells cs t f)∧t≠e:=fun he g hv=>by
  obtain⟨cs,t,f,a1,a2⟩:=owns_type h1.ownC hv;exact⟨cs,t,f,a1,fun e=>he (by rw[←e,a2])⟩
 have kS:∀ {e:TypeId} (_:e≠46) g,some lb=some g→∃cs t f,w2.heap[g]?=some (.cells cs t f)∧t≠e:=fun he g hv=>by
  cases hv;exact⟨_,_,_,ho2,fun e=>he e.symm⟩
 have two:∀B e size v n xs,e≠48→e≠46→w1.ownsRow B e size v n xs→(w2.setCell ⟨lb,2,none⟩ v').ownsRow B e size v n xs:=fun B e size v n xs e1 e2 hh =>
  owns_kind (owns_kind hh hg (kC e1)) (grown_set (b:=lb)) (kS e2)
 refine⟨ho2,⟨(h1.fr.grown hg (fun g hv=>hk g hv)).set (List.mem_singleton.2 rfl) _,h.lt,obj_set ho2 2 v',?_,two _ 51 4 _ _ _ (by decide) (by decide) h1.ownL,h1.inn.fr (fun e v n xs he _ hh=>two _ e 1 v n xs (by rcases he with rfl | rfl <;> decide) (by rcases he with rfl | rfl <;> decide) hh)⟩,fun B e v n xs he hh=>two B e 1 v n xs (by rcases he with rfl | rfl <;> decide) (by rcases he with rfl | rfl <;> decide) hh⟩;have h3:=owns_kind ho (grown_set (b:=lb) (i:=2) (v:=v')) (kS (by decide));rw[List.length_append,←clCells_app];exact h3
theorem LD.line {WB w w1 w2:World}{U U' lb n:Nat}{s:ByteArray}{base:Int}{vC vL vO vX v':Value}{Cs:List (Int × Int × Int × Int)}{Ls:List Ln}{hs:List Value}(l:Ln)(h:LD WB w U lb s base vC vL Cs Ls hs)(hn:n=Ls.length)(hf:Fr [] w w1)(hU:U≤U')
 (hO:w.ownsRow WB.heap.size 3 1 vO l.o.length (intsN l.o)) (hX:w.ownsRow WB.heap.size 2 1 vX l.x.length (ints64 l.x)) (hW:w.heap.size≤U')
 (ho:w2.ownsRow WB.heap.size 51 4 v' (n+1) (hs++[.int .i64 l.f,.int .i64 l.t,vO,vX])) (hg:w1.grownBy w2 vL.ownBlock) :
 w2.heap[lb]?=some (.cells #[.string s,.int .i64 base,vC,vL] 46 (0,0))∧LD WB (w2.setCell ⟨lb,3,none⟩ v') U' lb s base vC v' Cs (Ls++[l]) (hs++[.int .i64 l.f,.int .i64 l.t,vO,vX]):=by
 subst hn;have h1:=h.fr0 hf;have hk:∀g,vL.ownBlock=some g→WB.heap.size≤g:=fun g hv=>(h1.ownL.lt g hv).1
 have hne:∀g,vL.ownBlock=some g→g≠lb:=fun g hv e=>by have:=hk g hv;have:=h.lt;omega
 have ho2:w2.heap[lb]?=some (.cells #[.string s,.int .i64 base,vC,vL] 46 (0,0)):=(hg.block lb (obj_lt h1.obj) (fun e=>hne lb e.symm rfl)).trans h1.obj;have kC:∀ {e:TypeId} (_:e≠51) g,vL.ownBlock=some g→∃cs t f,w1.heap[g]?=some (.cells cs t f)∧t≠e:=fun he g hv=>by
  obtain⟨cs,t,f,a1,a2⟩:=owns_type h1.ownL hv;exact⟨cs,t,f,a1,fun e=>he (by rw[←e,a2])⟩
 have kS:∀ {e:TypeId} (_:e≠46) g,some lb=some g→∃cs t f,w2.heap[g]?=some (.cells cs t f)∧t≠e:=fun he g hv=>by
  cases hv;exact⟨_,_,_,ho2,fun e=>he e.symm⟩
 have two:∀B e size v n xs,e≠51→e≠46→w1.ownsRow B e size v n xs→(w2.setCell ⟨lb,3,none⟩ v').ownsRow B e size v n xs:=fun B e size v n xs e1 e2 hh =>
  owns_kind (owns_kind hh hg (kC e1)) (grown_set (b:=lb)) (kS e2)
 have hlen:hs.length=Ls.length * 4:=h.ownL.1;have hin:lnsAt (w2.setCell ⟨lb,3,none⟩ v') WB.heap.size U' hs Ls:=(h1.inn.mono hU).fr (fun e v n xs he _ hh=>two _ e 1 v n xs (by rcases he with rfl | rfl <;> decide) (by rcases he with rfl | rfl <;> decide) hh);refine⟨ho2,(h1.fr.grown hg (fun g hv=>hk g hv)).set (List.mem_singleton.2 rfl) _,h.lt,obj_set ho2 3 v',two _ 48 4 _ _ _ (by decide) (by decide) h1.ownC,?_,?_⟩
 ·have h3:=owns_kind ho (grown_set (b:=lb) (i:=3) (v:=v')) (kS (by decide))
  rw[List.length_append];exact h3
 ·intro j m hj
  rcases Nat.lt_trichotomy j Ls.length with hlt | heq | hgt
  ·rw[List.getElem?_append_left hlt]at hj
   obtain⟨vO',vX',a1,a2,a3,a4,a5⟩:=hin j m hj;refine⟨vO',vX',?_,?_,?_,?_,a5⟩
   all_goals (rw[List.getElem?_append_left (by omega)];assumption)
  ·subst heq
   rw[List.getElem?_append_right (Nat.le_refl _),Nat.sub_self]at hj;simp only[List.getElem?_cons_zero,Option.some.injEq]at hj;subst hj;refine⟨vO,vX,?_,?_,?_,?_,two _ 3 1 _ _ _ (by decide) (by decide) (owns_fr0 hO hf),two _ 2 1 _ _ _ (by decide) (by decide) (owns_fr0 hX hf),fun g hv=>Nat.lt_of_lt_of_le (hO.lt g hv).2 hW,fun g hv=>Nat.lt_of_lt_of_le (hX.lt g hv).2 hW⟩
   all_goals (rw[List.getElem?_append_right (by omega)];simp[hlen])
  ·rw[List.getElem?_append_right (by omega)]at hj
   obtain⟨d,hd⟩:∃d,j - Ls.length=d+1:=⟨j - Ls.length - 1,by omega⟩;rw[hd]at hj;simp at hj
def ptCells:List (Nat × Nat)→List Value
 | []=>[]
 | x :: l=>.int .i64 (x.1:Nat) :: .int .i64 (x.2:Nat) :: ptCells l
theorem ptCells_app:∀l m:List (Nat × Nat),ptCells l++ptCells m=ptCells (l++m)
 | [],_=>rfl
 | x :: l,m=>by simp only[ptCells,List.cons_append,ptCells_app l m]
theorem ptCells_at:∀(l:List (Nat × Nat)) (i:Nat) (x:Nat × Nat),l[i]?=some x→(ptCells l)[i * 2]?=some (.int .i64 (x.1:Nat))∧(ptCells l)[i * 2+1]?=some (.int .i64 (x.2:Nat))
 | [],i,x,h=>by simp at h
 | y :: l,0,x,h=>by simp at h;subst h;exact⟨rfl,rfl⟩
 | y :: l,i+1,x,h=>by
   have ih:=ptCells_at l i x (by simpa using h);rw[show(i+1) * 2=i * 2+1+1 by omega];exact ih
theorem two_one (a b:Int):∀u∈[Value.int .i64 a,.int .i64 b],u.oneCell'=true:=by
 intro u hu;simp only[List.mem_cons,List.not_mem_nil,or_false]at hu
 rcases hu with rfl | rfl <;> rfl
theorem info250:(Tryz.prog.info? 250).map (fun i=>(i.zero,i.size,i.bytes))=some (some (.agg #[.int .i64 0,.int .i64 0]),2,16):=by kernel_rfl
theorem partsTo_len (p:Nat→Bool)(l:List Nat):∀g,(partsTo p l g).1.length≤g∧(partsTo p l g).2≤g
 | 0=>by simp[partsTo]
 | g+1=>by
   have ih:=partsTo_len p l g;rw[partsTo];split
   ·omega
   ·dsimp only
    split
    ·rw[List.length_append,List.length_singleton];omega
    ·omega
theorem fr_drewN (w:World)(q:Nat):Fr [] w (w.drewN q):=(Fr.refl [] w).drewN q
set_option maxRecDepth 10000 in
set_option maxHeartbeats 4000000 in
theorem parts_any (F:Nat)(caps:Array Value)(p:Nat→Bool)(o:List Nat)(g c:Nat)(w:World)(hl:o.length≤1000)(hrow:rowN w g o.length o)(eg:∀args w,(callFunc F args).run Tryz.prog w=.ok (.enter F args) w)
 (hf:∀X,Fr [] w X→∀i,i<o.length→Calls Tryz.prog F (#[.int .i64 (nix o i:Nat)]++caps) X fun e w'=>e=.returned (.bool (p (nix o i)))∧∃q,w'=X.drewN q) :
 Calls Tryz.prog 115 #[.slice (some ⟨g,0,none⟩) o.length c,.func (.func F) #[] caps] w fun e w'=>∃v,e=.returned v∧w'.ownsRow w.heap.size 250 2 v (Lay.parts p o).length (ptCells (Lay.parts p o))∧Fr [] w w':=by
 obtain⟨i0,hi,hz0,hz1,hz2⟩:=info_parts info250;have HR:=hid hrow;have HF:=hid hf;have HPL:=hid (partsTo_len p o);have HST:=hid (fun k=>show partsTo p o (k+1)=if k<o.length∧p (nix o k)=true then partsTo p o k else(if(partsTo p o k).2<k then(partsTo p o k).1++[((partsTo p o k).2,k)]else(partsTo p o k).1,k+1)from rfl);obtain⟨R,hR⟩:∃R,R=Lay.parts p o:=⟨_,rfl⟩;rw[←hR];obtain⟨n,hn⟩:∃n,n=o.length:=⟨_,rfl⟩;have HRR:=hid (show R=(partsTo p o (n+1)).1 by rw[hR,hn];rfl);rw[←hn]at hl HR HF HST ⊢;clear hrow hf hR hn;go_enter Tryz.func115,Tryz.ntmps115;go_wp2_with fail;go_loopw [5,6,11] (fun vo ff gg wr=>∃(k:Nat),gg=.int .i64 k∧k≤n+1∧ff=.int .i64 ((partsTo p o k).2:Nat)∧Hid (wr.ownsRow w.heap.size 250 2 vo (partsTo p o k).1.length (ptCells (partsTo p o k).1))∧Hid (Fr [] w wr)) (fun _ _ gg _=>n+1 - (intOf gg).toNat)
 case atStart=>exact⟨0,rfl,Nat.zero_le _,rfl,hid (World.ownsRow_nil _ _ _ _),hid (Fr.refl _ _)⟩
 case round =>
  obtain⟨k,rfl,hkn,rfl,HO,HFr⟩:=hrel;by_cases hkl:k<n+1
  ·have hkI:(k:Int)<(n:Int)+1:=by omega
   have HS:=hid (HST.out k);have hp1:=HPL.out k;have hsz:=HFr.out.size;by_cases hka:k<n∧p (nix o k)=true
   ·obtain⟨h1,h2⟩:=hka
    have HS2:=hid (show partsTo p o (k+1)=partsTo p o k by rw[HS.out,if_pos ⟨h1,h2⟩]);have d0:=HR.out.fr HFr.out List.not_mem_nil k h1;have HC:=hid (HF.out wr HFr.out k h1);rw[h2]at HC;have h1I:(k:Int)<(n:Int):=by omega
    clear h2 HS;generalize nix o k=x at *;obtain⟨f0,hf0⟩:∃f0,f0=(partsTo p o k).2:=⟨_,rfl⟩;rw[←hf0];have HF0:=hid hf0;clear hf0;go_wp2_with (go_at_fn F;refine HC.out.mono ?_;rintro e w' ⟨rfl,mm,rfl⟩);go_roundw
    case rel=>exact⟨k+1,by go_num,by omega,by rw[HS2.out,HF0.out],hid (by rw[HS2.out];exact HO.out),hid (HFr.out.drewN _)⟩
    case measure=>simp[intOf];omega
   ·have HS2:=hid (show(partsTo p o (k+1)).2=k+1∧(partsTo p o (k+1)).1=if(partsTo p o k).2<k then(partsTo p o k).1++[((partsTo p o k).2,k)]else(partsTo p o k).1 by rw[HS.out,if_neg hka];exact⟨rfl,rfl⟩)
    obtain⟨f0,hf0⟩:∃f0,f0=(partsTo p o k).2:=⟨_,rfl⟩;obtain⟨l0,hl0⟩:∃l0,l0=(partsTo p o k).1:=⟨_,rfl⟩;rw[←hf0]at HS2 hp1 ⊢;rw[←hl0]at HS2 hp1 HO;clear hf0 hl0 HS
    -- the test is false: two ways
    have hcs:(k<n∧p (nix o k)=false)∨¬k<n:=by
     by_cases h:k<n
     ·exact .inl ⟨h,by cases hh:p (nix o k);rfl;exact absurd ⟨h,hh⟩ hka⟩
     ·exact .inr h
    clear hka;obtain⟨hp10,hp11⟩:=hp1;by_cases hfk:f0<k
    ·have hfI:(f0:Int)<(k:Int):=by omega
     have HS3:=hid (show(partsTo p o (k+1)).1=l0++[(f0,k)] by rw[HS2.out.2,if_pos hfk])
     rcases hcs with⟨h1,h2⟩ | h1
     case' inl =>
      have d0:=HR.out.fr HFr.out List.not_mem_nil k h1;have HC:=hid (HF.out wr HFr.out k h1);rw[h2]at HC;have h1I:(k:Int)<(n:Int):=by omega
      clear h2;generalize nix o k=x at *
     case' inr =>
      have h1I:¬(k:Int)<(n:Int):=by omega
      have h1J:decide ((k:Int)<(n:Int))=false:=decide_eq_false h1I;have HC:Hid True:=trivial
     all_goals (
      go_wp2_with (first | (go_at_fn F;refine HC.out.mono ?_;rintro e w' ⟨rfl,mm,rfl⟩) | (at_builtin;refine wpList_append_own _ rfl _ _ 176 rfl w.heap.size 250 i0 _ 2 16 Tryz.underlying176 hi hz0 hz1 hz2 rfl (by decide) _ l0.length (ptCells l0) rfl ?own _ 1 1 [.int .i64 (f0:Nat),.int .i64 (k:Nat)] rfl rfl (news_at _ _ _ _ (by simp)) (two_one _ _) (by unfold maxLen;omega) (by omega) ?szz ?_))
      case own=>exact owns_fr0 HO.out (by first | exact(Fr.refl [] _).alloc _ | exact(fr_drewN _ _).alloc _)
      case szz=>first | omega | (simp;omega)
      intro v' w3 own3 hgrow hnil
      have HF3:=hid (Fr.grown (by first | exact HFr.out.alloc _ | exact(HFr.out.drewN _).alloc _) hgrow (fun x h=>(HO.out.lt x h).1))
      have HO3:=hid own3
      clear own3 hgrow hnil
      go_wp2
      go_roundw
      case rel=>exact⟨k+1,by go_num,by omega,by rw[HS2.out.1];go_num,hid (by rw[HS3.out,List.length_append,←ptCells_app];exact HO3.out),HF3⟩
      case measure=>simp[intOf];omega)
    ·have hfI:¬(f0:Int)<(k:Int):=by omega
     have HS3:=hid (show(partsTo p o (k+1)).1=l0 by rw[HS2.out.2,if_neg hfk])
     rcases hcs with⟨h1,h2⟩ | h1
     case' inl =>
      have d0:=HR.out.fr HFr.out List.not_mem_nil k h1;have HC:=hid (HF.out wr HFr.out k h1);rw[h2]at HC;have h1I:(k:Int)<(n:Int):=by omega
      clear h2;generalize nix o k=x at *
     case' inr =>
      have h1I:¬(k:Int)<(n:Int):=by omega
      have h1J:decide ((k:Int)<(n:Int))=false:=decide_eq_false h1I;have HC:Hid True:=trivial
     all_goals (
      go_wp2_with (first | (go_at_fn F;refine HC.out.mono ?_;rintro e w' ⟨rfl,mm,rfl⟩))
      go_roundw
      case rel=>exact⟨k+1,by go_num,by omega,by rw[HS2.out.1];go_num,hid (by rw[HS3.out];exact HO.out),by first | exact hid (HFr.out.drewN _) | exact HFr⟩
      case measure=>simp[intOf];omega)
  ·obtain rfl:k=n+1:=by omega
   generalize (partsTo p o (n+1)).2=f0 at *;have hkI:¬((n+1:Nat):Int)<(n:Int)+1:=by omega
   have HO2:=hid (show wr.ownsRow w.heap.size 250 2 u5 R.length (ptCells R) by rw[HRR.out];exact HO.out);go_wp2;go_ret;exact⟨_,rfl,HO2.out,HFr.out⟩
end Go.Proofs.YtnakejhohdbfdaaGreatDoor
namespace Go.Proofs
open Go.Shelf Go.RowKit
def Tryz.lays195_ren:Go.Shelf.Ren:=⟨fun | 195=>220 | n=>n,fun | 9=>9 | 3=>3 | 0=>0 | 4=>4 | n=>n,fun | n=>n⟩
theorem Tryz.lays195:Go.Proofs.Lays.n195 Tryz.prog Tryz.lays195_ren:={
 mixed:=by kernel_rfl
 f195:=Tryz.func220.trans (congrArg some (by kernel_rfl))
 t0:=Tryz.underlying0
 a0:=Tryz.isAgg0
 z0:=Tryz.sizeOf0
 v0:=Tryz.zeroValue0
 t3:=Tryz.underlying3
 a3:=Tryz.isAgg3
 z3:=Tryz.sizeOf3
 v3:=Tryz.zeroValue3
 t4:=Tryz.underlying4
 a4:=Tryz.isAgg4
 z4:=Tryz.sizeOf4
 v4:=Tryz.zeroValue4
 t9:=Tryz.underlying9
 a9:=Tryz.isAgg9
 z9:=Tryz.sizeOf9
 v9:=Tryz.zeroValue9 }
theorem Tryz.utf8_RuneCountInString (s:ByteArray)(w:World)(hs:s.size<9223372036854775807) :
 Calls Tryz.prog 220 #[.string s] w fun e w'=>e=.returned (.int .i64 (Lib.runeCount s))∧∃pos,w'=w.iter s pos:=Any.utf8_RuneCountInString Tryz.lays195 s w hs
def Tryz.lays108_ren:Go.Shelf.Ren:=⟨fun | 108=>104 | n=>n,fun | 28=>22 | 3=>3 | 0=>0 | 4=>4 | n=>n,fun | n=>n⟩
theorem Tryz.lays108:Go.Proofs.Lays.n108 Tryz.prog Tryz.lays108_ren:={
 mixed:=by kernel_rfl
 f108:=Tryz.func104.trans (congrArg some (by kernel_rfl))
 t0:=Tryz.underlying0
 a0:=Tryz.isAgg0
 z0:=Tryz.sizeOf0
 v0:=Tryz.zeroValue0
 t3:=Tryz.underlying3
 a3:=Tryz.isAgg3
 z3:=Tryz.sizeOf3
 v3:=Tryz.zeroValue3
 t4:=Tryz.underlying4
 a4:=Tryz.isAgg4
 z4:=Tryz.sizeOf4
 v4:=Tryz.zeroValue4
 t28:=Tryz.underlying22
 a28:=Tryz.isAgg22
 z28:=Tryz.sizeOf22
 v28:=Tryz.zeroValue22 }
theorem Tryz.slices_Index_int (b off n c:Nat)(zs:List Int)(x:Int)(w:World)(hz:n≤zs.length)(hbig:n≤9223372036854775807)(hc:∀j,j<zs.length→w.cell? ⟨b,off+j,none⟩=some (.int .i64 (zs.getD j 0))) :
 Calls Tryz.prog 104 #[.slice (some ⟨b,off,none⟩) n c,.int .i64 x] w fun e w'=>e=.returned (.int .i64 (Lib.idxOf (zs.take n) x))∧w'=w:=Any.slices_Index_int Tryz.lays108 b off n c zs x w hz hbig hc
def Tryz.lays112_ren:Go.Shelf.Ren:=⟨fun | 112=>256 | n=>n,fun | 28=>22 | 3=>3 | 4=>4 | 0=>0 | n=>n,fun | n=>n⟩
theorem Tryz.lays112:Go.Proofs.Lays.n112 Tryz.prog Tryz.lays112_ren:={
 mixed:=by kernel_rfl
 f112:=Tryz.func256.trans (congrArg some (by kernel_rfl))
 t0:=Tryz.underlying0
 a0:=Tryz.isAgg0
 z0:=Tryz.sizeOf0
 v0:=Tryz.zeroValue0
 t3:=Tryz.underlying3
 a3:=Tryz.isAgg3
 z3:=Tryz.sizeOf3
 v3:=Tryz.zeroValue3
 t4:=Tryz.underlying4
 a4:=Tryz.isAgg4
 z4:=Tryz.sizeOf4
 v4:=Tryz.zeroValue4
 t28:=Tryz.underlying22
 a28:=Tryz.isAgg22
 z28:=Tryz.sizeOf22
 v28:=Tryz.zeroValue22 }
def Tryz.laysNm225_ren:Go.Shelf.Ren:=⟨fun | 25=>166 | 31=>209 | 32=>210 | 37=>231 | n=>n,fun | 22=>22 | 3=>3 | 4=>4 | 40=>283 | 0=>0 | n=>n,fun | n=>n⟩
theorem Tryz.laysNm225:Go.Proofs.Lays2.n25 Tryz.prog Tryz.laysNm225_ren:={
 mixed:=by kernel_rfl
 f25:=Tryz.func166.trans (congrArg some (by kernel_rfl))
 f31:=Tryz.func209.trans (congrArg some (by kernel_rfl))
 f32:=Tryz.func210.trans (congrArg some (by kernel_rfl))
 f37:=Tryz.func231.trans (congrArg some (by kernel_rfl))
 t0:=Tryz.underlying0
 a0:=Tryz.isAgg0
 z0:=Tryz.sizeOf0
 v0:=Tryz.zeroValue0
 t3:=Tryz.underlying3
 a3:=Tryz.isAgg3
 z3:=Tryz.sizeOf3
 v3:=Tryz.zeroValue3
 t4:=Tryz.underlying4
 a4:=Tryz.isAgg4
 z4:=Tryz.sizeOf4
 v4:=Tryz.zeroValue4
 t22:=Tryz.underlying22
 a22:=Tryz.isAgg22
 z22:=Tryz.sizeOf22
 v22:=Tryz.zeroValue22
 t40:=Tryz.underlying283
 a40:=Tryz.isAgg283
 z40:=Tryz.sizeOf283
 v40:=Tryz.zeroValue283 }
theorem Tryz.slices_BinarySearch_int (b off n c:Nat)(zs:List Int)(x:Int)(w:World)(hz:n≤zs.length)(hbig:n<4611686018427387904)(hc:∀j,j<zs.length→w.cell? ⟨b,off+j,none⟩=some (.int .i64 (zs.getD j 0)))(hs:(zs.take n).Pairwise (·≤·)) :
 Calls Tryz.prog 166 #[.slice (some ⟨b,off,none⟩) n c,.int .i64 x] w fun e w'=>e=.returned (.tuple #[.int .i64 ((zs.take n).countP (·<x):Nat),.bool ((zs.take n).contains x)])∧∃q,w'=w.drewN q:=Any.slices_BinarySearch_int Tryz.laysNm225 b off n c zs x w hz hbig hc hs
theorem Tryz.slices_Reverse_int_cells (b off n c:Nat)(zs:List Int)(w:World)(hz:n≤zs.length)(hbig:n≤9223372036854775807)(hc:∀j,j<zs.length→w.cell? ⟨b,off+j,none⟩=some (.int .i64 (zs.getD j 0)))(hf:∀j,j<n→w.frozen? ⟨b,off+j,none⟩=false) :
 Calls Tryz.prog 256 #[.slice (some ⟨b,off,none⟩) n c] w fun e w'=>e=.returned (.tuple #[])∧∃q,w'=(w.drewN q).setCells b off ((zs.take n).reverse.map (Value.int .i64)):=Any.slices_Reverse_int_cells Tryz.lays112 b off n c zs w hz hbig hc hf
end Go.Proofs

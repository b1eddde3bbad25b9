import Derived.Test.YtnakejhohdbfdaaGreatDoorVag
import Derived.Maps.AppendAt
import Derived.Test.YtnakejhohdbfdaaGreatDoorVad
import Derived.Shelf.Utf8.RuneCount
import Derived.Shelf.Unicode.DecodeSlow
import Derived.Shelf.Slices.Turned
import Derived.Shelf.Slices.Reverse
import Derived.Ground.Names2Prog
import Derived.Shelf.Slices.Clone
import Derived.Shelf.Slices.Cells
import Derived.Shelf.Slices.Empties
import Derived.Ground.SlgnProg
import Derived.Shelf.SlicesE.Clone
import Derived.Ground.SlgmProg
set_option maxHeartbeats 4000000
set_option maxRecDepth 10000
set_option linter.unusedSimpArgs false
namespace Go.Proofs.YtnakejhohdbfdaaGreatDoor
open Go.RowKit jN Lay Go.Proofs.Tryz
def Wv (K L:List Int)(base:Int)(b i:Nat):Int:=if(stops (nth K i) || (decide (scan K b i=b) || stops (nth K (scan K b i))))=true then base else nth L i
def L5 (K L:List Int)(base:Int)(a b k:Nat):List Int:=(List.range k).map fun d=>Wv K L base b (a+d)
theorem Pw (K L:List Int)(base:Int)(a b k:Nat):L5 K L base a b (k+1)=L5 K L base a b k++[Wv K L base b (a+k)]:=by
 rw[L5,dA,cJ];rfl
theorem mh (l:List Int)(x:Int):gu l++[.int .i64 x]=gu (l++[x]):=by simp[gu]
theorem xX {c:Int}(h1:¬c=11)(h2:¬c=10):stops c=false:=by simp[stops,h1,h2]
theorem Px {c:Int}(h0:j6 c=false)(h1:¬c=22)(h2:¬c=12)(h3:gone c=false):trail c=false:=by simp[trail,h0,h1,h2,h3]
theorem L6 (q:PH)(C L:List Int)(G:List Bool)(a b:Nat)(w:World)(hp:PS w q C L G)(hG:∀i,i<q.n->(G[i]?).getD false=gone (nth q.K i))(hab:a<=b)(hb:b<=q.n)(hq:q.n<=1000000) :
 Calls prog 164 #[.pointer (some ⟨q.p,0,none⟩),.int .i64 a,.int .i64 b] w fun e w'=>∃v,e=.returned v/\w'.ownsRow w.heap.size 3 1 v (b - a) (gu (L5 q.K L q.base a b (b - a)))/\Fr [] w w':=by
 obtain⟨i0,hi,hz0,hz1,hz2⟩:=e_ info3;have HP:=hid hp;have HG:=hid hG;clear hp hG;go_enter func164,ntmps164;go_wp2_with fail;go_loopw [7,8] (fun v ii wr=>∃k:Nat,a+k<=b/\ii=.int .i64 (a+k:Nat)/\Hid (wr.ownsRow w.heap.size 3 1 v k (gu (L5 q.K L q.base a b k)))/\Hid (Fr [] w wr)) (fun _ ii _=>b - (intOf ii).toNat)
 case atStart=>exact⟨0,hab,rfl,hid (eY _ _ _ _),hid (Fr.refl _ _)⟩
 case round =>
  obtain⟨k,hk,rfl,HO,HF⟩:=hrel;have Je:=hid (HP.out.iS HF.out);by_cases hkb:a+k<b
  ·have c3:=Je.out.c3
   have c1:=Je.out.c1;have c5:=Je.out.c5;have c6:=Je.out.c6;have d0:=Je.out.rL (a+k) (by omega);have d1:=Je.out.rF (a+k) (by omega);have L7:=hid (show L5 q.K L q.base a b (k+1)=L5 q.K L q.base a b k++[Wv q.K L q.base b (a+k)]from Pw _ _ _ _ _ _);have Dx:=hid (show Wv q.K L q.base b (a+k)=if(stops (nth q.K (a+k)) || (decide (scan q.K b (a+k)=b) || stops (nth q.K (scan q.K b (a+k)))))=true then q.base else nth L (a+k)from rfl);generalize Wv q.K L q.base b (a+k)=Z at L7 Dx;have HI0:=hid (show nth q.K (a+k)=nth q.K (a+k)from rfl);generalize hl:nth L (a+k)=lv at d0 Dx;clear hl;obtain⟨c0,hc0⟩:∃c0,c0=nth q.K (a+k):=⟨_,rfl⟩;rw[<-hc0]at d1 Dx;have Ol:=hid hc0;have sX:((a+k:Nat):Int)<(b:Int):=by omega
   have hnI:((a+k:Nat):Int)<(q.n:Int):=by omega
   have hkM:k<=1000000:=by omega
   have HAK:=hid (show a+(k+1)=(a+k)+1 from rfl);clear hc0 HI0;generalize hii:a+k=i at *;have HII:=hid hii;clear hii;have hsz:=HF.out.size;go_wp2_with fail;go_loop [11] (fun jj=>∃j:Nat,i<=j/\j<=b/\jj=.int .i64 j/\Hid (scan q.K b i=scan q.K b j)) (fun jj=>b - (intOf jj).toNat)
   case atStart=>exact⟨i,ak _,by omega,rfl,rfl⟩
   case round =>
    obtain⟨j,hij,hjb,rfl,HS⟩:=hrel;by_cases hjl:j<b
    ·have Io:(j:Int)<(b:Int):=by omega
     have hjn:(j:Int)<(q.n:Int):=by omega
     have e1:=Je.out.rF j (by omega);have e5:=Je.out.rG j (by omega);rw[HG.out j (by omega)]at e5;obtain⟨c,hc⟩:∃c,c=nth q.K j:=⟨_,rfl⟩;rw[<-hc]at e1 e5;have HC:=hid hc;clear hc;have Dy:=hid (gG c);cases ht:trail c
     ·have HSJ:=hid (show scan q.K b i=j by rw[HS.out,ze (by rw[<-HC.out];exact ht)])
      have h1:j6 c=false:=by cases h:j6 c;rfl;rw[trail,h]at ht;simp at ht
      have h2:¬c=22:=fun h=>by rw[trail,h]at ht;simp at ht
      have h3:¬c=12:=fun h=>by rw[trail,h]at ht;simp at ht
      have h4:gone c=false:=by cases h:gone c;rfl;rw[trail,h]at ht;simp at ht
      rw[h1]at Dy;rw[h4]at e5;have h2':(c == 22)=false:=by simp[h2]
      have h3':(c == 12)=false:=by simp[h3]
      have h2n:(c != 22)=true:=by simp[h2]
      have h3n:(c != 12)=true:=by simp[h3]
      rw[HSJ.out,<-HC.out,aK (by omega)]at Dx;clear ht h1 h4;have hcs:(c0=11/\q.base=Z)\/(c0=10/\q.base=Z)\/(¬c0=11/\¬c0=10/\c=11/\q.base=Z)\/(¬c0=11/\¬c0=10/\c=10/\q.base=Z)\/(¬c0=11/\¬c0=10/\¬c=11/\¬c=10/\lv=Z):=by
       by_cases g1:c0=11
       ·exact .inl ⟨g1,by rw[Dx.out,g1];rfl⟩
       by_cases g2:c0=10
       ·exact .inr (.inl ⟨g2,by rw[Dx.out,g2];rfl⟩)
       by_cases g3:c=11
       ·exact .inr (.inr (.inl ⟨g1,g2,g3,by rw[Dx.out,g3,xX g1 g2];rfl⟩))
       by_cases g4:c=10
       ·exact .inr (.inr (.inr (.inl ⟨g1,g2,g4,by rw[Dx.out,g4,xX g1 g2];rfl⟩)))
       exact .inr (.inr (.inr (.inr ⟨g1,g2,g3,g4,by rw[Dx.out,xX g1 g2,xX g3 g4];rfl⟩)))
      have hjb':¬(j:Int)=(b:Int):=by omega
      have hjb2:((j:Int) == (b:Int))=false:=by simp[hjb']
      clear Ol HC Dx
      rcases hcs with⟨rfl,hZ⟩ | ⟨rfl,hZ⟩ | ⟨g1,g2,rfl,hZ⟩ | ⟨g1,g2,rfl,hZ⟩ | ⟨g1,g2,g3,g4,hZ⟩
      case' inr.inr.inl=>have g1':(c0 == 11)=false:=by simp[g1]
      case' inr.inr.inl=>have g2':(c0 == 10)=false:=by simp[g2]
      case' inr.inr.inr.inl=>have g1':(c0 == 11)=false:=by simp[g1]
      case' inr.inr.inr.inl=>have g2':(c0 == 10)=false:=by simp[g2]
      case' inr.inr.inr.inr=>have g1':(c0 == 11)=false:=by simp[g1]
      case' inr.inr.inr.inr=>have g2':(c0 == 10)=false:=by simp[g2]
      case' inr.inr.inr.inr=>have g3':(c == 11)=false:=by simp[g3]
      case' inr.inr.inr.inr=>have g4':(c == 10)=false:=by simp[g4]
      case' inr.inr.inr.inr=>subst hZ
      all_goals first | (rw[hZ]at c6;clear hZ) | skip
      all_goals (
       have iG:=hid (fun Z'=>HO.out.alloc (.cells #[.int .i64 Z'] 3))
       go_wp2_with (first | (go_at_call 41;refine(Dy.out _).mono ?_;rintro e w' ⟨rfl,rfl⟩) | (at_builtin;refine eV _ rfl _ _ 22 rfl w.heap.size 3 i0 _ 1 8 underlying22 hi hz0 hz1 hz2 rfl (by decide) _ _ _ rfl (iG.out _) _ 1 1 [.int .i64 _] rfl rfl (iC _ _ _ _ (by simp)) (one_cell _) (by unfold maxLen;omega) (by omega) (by simp;omega) ?_))
       intro v' w3 gM hgrow hnil
       have iO:=hid ((HF.out.alloc _).grown hgrow (fun x h=>(HO.out.lt x h).1))
       have k9:=hid (show w3.ownsRow w.heap.size 3 1 v' (k+1) (gu (L5 q.K L q.base a b (k+1))) by rw[L7.out,<-mh];exact gM)
       clear gM hgrow hnil
       go_wp2
       go_roundw
       case rel=>exact⟨k+1,by rw[HAK.out];omega,by rw[HAK.out];go_num,k9,iO⟩
       case measure=>simp[intOf];omega)
     ·have HS2:=hid (show scan q.K b i=scan q.K b (j+1) by rw[HS.out,Em hjl (by rw[<-HC.out];exact ht)])
      cases h1:j6 c
      case' true=>rw[h1]at Dy
      case' false =>
       rw[h1]at Dy;have hr:c=22\/(¬c=22/\(c == 22)=false/\(c=12\/(¬c=12/\(c == 12)=false/\gone c=true))):=by
        by_cases h2:c=22
        ·exact .inl h2
        ·refine .inr ⟨h2,by simp[h2],?_⟩
         by_cases h3:c=12
         ·exact .inl h3
         ·refine .inr ⟨h3,by simp[h3],?_⟩
          cases h4:gone c
          ·rw[Px h1 h2 h3 h4]at ht;cases ht
          ·rfl
       rcases hr with rfl | ⟨h2,h2',rfl | ⟨h3,h3',h4⟩⟩
       case' inr.inr=>rw[h4]at e5
      all_goals (
       clear ht
       go_wp2_with (go_at_call 41;refine(Dy.out _).mono ?_;rintro e w' ⟨rfl,rfl⟩)
       go_round
       case rel=>exact⟨j+1,by omega,by omega,by go_num,HS2⟩
       case measure=>simp[intOf];omega)
    ·obtain rfl:b=j:=by omega
     have hcs:(c0=11/\q.base=Z)\/(c0=10/\q.base=Z)\/(¬c0=11/\¬c0=10/\q.base=Z):=by
      have h:=Dx.out;rw[HS.out,GA,aZ rfl]at h;have h2:q.base=Z:=by rw[h];simp
      by_cases g1:c0=11
      ·exact .inl ⟨g1,h2⟩
      by_cases g2:c0=10
      ·exact .inr (.inl ⟨g2,h2⟩)
      exact .inr (.inr ⟨g1,g2,h2⟩)
     have Dy:=hid (gG 0);clear Ol Dx
     rcases hcs with⟨rfl,hZ⟩ | ⟨rfl,hZ⟩ | ⟨g1,g2,hZ⟩
     case' inr.inr=>have g1':(c0 == 11)=false:=by simp[g1]
     case' inr.inr=>have g2':(c0 == 10)=false:=by simp[g2]
     all_goals rw[hZ]at c6
     all_goals clear hZ
     all_goals (
      have iG:=hid (fun Z'=>HO.out.alloc (.cells #[.int .i64 Z'] 3))
      go_wp2_with (first | (go_at_call 41;refine(Dy.out _).mono ?_;rintro e w' ⟨rfl,rfl⟩) | (at_builtin;refine eV _ rfl _ _ 22 rfl w.heap.size 3 i0 _ 1 8 underlying22 hi hz0 hz1 hz2 rfl (by decide) _ _ _ rfl (iG.out _) _ 1 1 [.int .i64 _] rfl rfl (iC _ _ _ _ (by simp)) (one_cell _) (by unfold maxLen;omega) (by omega) (by simp;omega) ?_))
      intro v' w3 gM hgrow hnil
      have iO:=hid ((HF.out.alloc _).grown hgrow (fun x h=>(HO.out.lt x h).1))
      have k9:=hid (show w3.ownsRow w.heap.size 3 1 v' (k+1) (gu (L5 q.K L q.base a b (k+1))) by rw[L7.out,<-mh];exact gM)
      clear gM hgrow hnil
      go_wp2
      go_roundw
      case rel=>exact⟨k+1,by rw[HAK.out];omega,by rw[HAK.out];go_num,k9,iO⟩
      case measure=>simp[intOf];omega)
  ·have sX:¬((a+k:Nat):Int)<(b:Int):=by omega
   go_wp2;go_ret;exact⟨_,rfl,by rw[show b - a=k by omega];exact HO.out,HF.out⟩
structure Ln where
 f:Int
 t:Int
 o:List Nat
 x:List Int
def mV:List (Int × Int × Int × Int)->List Value
 | []=>[]
 | x :: l=>.int .i64 x.1 :: .int .i64 x.2.1 :: .int .i64 x.2.2.1 :: .int .i64 x.2.2.2 :: mV l
theorem z8:∀l m:List (Int × Int × Int × Int),mV l++mV m=mV (l++m)
 | [],_=>rfl
 | x :: l,m=>by simp only[mV,b8,z8 l m]
theorem p_:∀(l:List (Int × Int × Int × Int)) (i:Nat) (x:Int × Int × Int × Int),l[i]?=some x ->
 (mV l)[i * 4]?=some (.int .i64 x.1)/\(mV l)[i * 4+1]?=some (.int .i64 x.2.1)/\(mV l)[i * 4+2]?=some (.int .i64 x.2.2.1)/\(mV l)[i * 4+3]?=some (.int .i64 x.2.2.2)
 | [],i,x,h=>by simp at h
 | y :: l,0,x,h=>by simp at h;subst h;exact⟨rfl,rfl,rfl,rfl⟩
 | y :: l,i+1,x,h=>by
   have ih:=p_ l i x (by simpa using h);rw[show(i+1) * 4=i * 4+1+1+1+1 by omega];exact ih
theorem Py (a b c d:Int):∀u∈[Value.int .i64 a,.int .i64 b,.int .i64 c,.int .i64 d],u.oneCell'=true:=by
 intro u hu;simp only[bK,af,eR]at hu
 rcases hu with rfl | rfl | rfl | rfl <;> rfl
theorem iJ {l:List Int}{j:Nat}(h:j<l.length):(gu l)[j]?=some (.int .i64 (nth l j)):=by
 rw[gu,bV,az h];simp[nth,az h]
theorem Pz:(Tryz.prog.info? 2).map (fun i=>(i.zero,i.size,i.bytes))=some (some (.int .i64 0),1,8):=by kernel_rfl
theorem Xq:(Tryz.prog.info? 48).map (fun i=>(i.zero,i.size,i.bytes))=some (some (.agg #[.int .i64 0,.int .i64 0,.int .i64 0,.int .i64 0]),4,32):=by kernel_rfl
theorem Fm:(Tryz.prog.info? 51).map (fun i=>(i.zero,i.size,i.bytes))=some (some (.agg #[.int .i64 0,.int .i64 0,.slice none 0 0,.slice none 0 0]),4,64):=by kernel_rfl
theorem fN {w:World}{b:Nat}{cs:Array Value}{t:TypeId}(h:w.heap[b]?=some (.cells cs t (0,0))){i:Nat}{v:Value}(hv:cs[i]?=some v):w.cell? ⟨b,i,none⟩=some v:=by
 rw[fu w b i _ t (0,0) h];exact hv
theorem fT {w:World}{b:Nat}{cs:Array Value}{t:TypeId}(h:w.heap[b]?=some (.cells cs t (0,0)))(i:Nat):w.frozen? ⟨b,i,none⟩=false:=fF w b i _ t h
theorem h_ {w:World}{b:Nat}{o:Obj}(h:w.heap[b]?=some o):b<w.heap.size:=(aD.1 h).1
theorem fO {S:List Nat}{w w':World}{b:Nat}{o:Obj}(h:w.heap[b]?=some o)(hf:Fr S w w')(hb:b ∉ S):w'.heap[b]?=some o:=(hf.block b (h_ h) hb).trans h
theorem fU (w:World)(o:Obj):(w.alloc o).heap[w.heap.size]?=some o:=fH w o
theorem fP {w:World}{b:Nat}{cs:Array Value}{t:TypeId}(h:w.heap[b]?=some (.cells cs t (0,0)))(i:Nat)(v:Value):(w.setCell ⟨b,i,none⟩ v).heap[b]?=some (.cells (cs.setIfInBounds i v) t (0,0)):=fA w b i cs t v h
theorem GC {P:Program}{ops:Array Oper}{o:Oper}{a:Act}{w:World}{K:Act->World->Prop}{Q:Exit->Act->World->Prop}{X:Prop}
 (hg:o.guard=none) (s x:Operand) (t:TypeId) (hop:o.op=Op.call { callee:=Callee.builtin Builtin.append,args:=#[s,x],argTypes:=#[t,t] })
 (base:Nat) (e:TypeId) (i:TypeInfo) (z:Value) (size bytes:Nat) (h1:P.underlying t=some (.slice e)) (h2:P.info? e=some i) (h3:i.zero=some z) (h4:i.size=size) (h5:i.bytes=bytes) (h6:z.cells.size=size) (h7:0<size)
 (v:Value) (n:Nat) (xs:List Value) (hs:a.eval s=v) (hown:w.ownsRow base e size v n xs)
 (ad:Addr) (m c:Nat) (news:List Value) (hx:a.eval x=.slice (some ad) m c) (hn:news.length=m * size) (hc:∀j u,news[j]?=some u->w.cell? (ad.add j)=some u) (h1c:∀u∈news,u.oneCell'=true)
 (b1:n+m<=maxLen) (b2:(n+m) * bytes<=140737488355328) (b3:base<=w.heap.size)
 (hK:∀v' w',w'.ownsRow base e size v' (n+m) (xs++news)->w.grownBy w' v.ownBlock->K (a.put o.dst v') w') :
 if Region.wanted o (yielded ops a.tmps)=true then Oper.wp P o a w K Q else X:=by
 have hw:Region.wanted o (yielded ops a.tmps)=true:=by simp[Region.wanted,hg]
 rw[ay hw];exact wp_append_own w s x t hop base e i z size bytes h1 h2 h3 h4 h5 h6 h7 v n xs hs hown ad m c news hx hn hc h1c b1 b2 b3 (fun v' w' k2 k3 _=>hK v' w' k2 k3)
theorem AA {P:Program}(w:World)(base:Nat)(t ty e:TypeId)(i:TypeInfo)(z:Value)(size bytes:Nat)(ht:P.underlying t=some (.slice e))(hi:P.info? e=some i)(hz:i.zero=some z)(hsize:i.size=size)(hby:i.bytes=bytes)(hzs:z.cells.size=size)(hsz:0<size)
 (g n cap:Nat) (xs:List Value) (hown:w.ownsRow base e size (.slice (some ⟨g,0,none⟩) n cap) n xs)
 (a:Addr) (m c:Nat) (news:List Value) (hl:news.length=m * size) (hnews:∀j u,news[j]?=some u->w.cell? (a.add j)=some u) (h1:∀u∈news,u.oneCell'=true) (h63:n+m<=maxLen) (hbytes:(n+m) * bytes<=140737488355328) (hbase:base<=w.heap.size) :
 ∃v' w',(Builtin.append_ #[t,t] ty #[.slice (some ⟨g,0,none⟩) n cap,.slice (some a) m c]).run P w=.ok v' w'/\w'.ownsRow base e size v' (n+m) (xs++news)/\w.grownBy w' (some g)/\∀j u,xs[j]?=some u->w'.cell? ⟨g,j,none⟩=some u:=by
 obtain⟨v',w',hr,h2,h3,_,_⟩:=run_append_own_at (P:=P) w base t ty e i z size bytes ht hi hz hsize hby hzs hsz _ n xs hown a m c news hl hnews h1 h63 hbytes hbase;refine⟨v',w',hr,h2,h3,fun j u hj=>?_⟩;have hjn:j<n * size:=by
  have:=(bg.1 hj).1;rw[hown.1]at this;exact this
 have hold:w.cell? ⟨g,j,none⟩=some u:=by rw[hown.cellAt j hjn];exact hj
 subst hsize;subst hby
 rcases hown.2 with⟨h0,_⟩ | ⟨g',cap',cur,hv,hbg,hg,hnc,hcm,hcs,htake⟩
 ·cases h0
 ·cases hv
  by_cases hroom:n+m<=cap
  ·have hfit:n * i.size+news.length<=cur.size:=by rw[hl,hcs,<-Nat.add_mul];exact Nat.mul_le_mul_right _ hroom
   have hr2:=run_append_room (P:=P) w t ty e i ht hi g n cap cur hg a m c news hl hnews h1 hroom hfit;rw[hr]at hr2;cases hr2;have h5:=h2.cellAt j (bQ hjn (Nat.mul_le_mul_right _ (Nat.le_add_right n m)));rw[h5,aJ (by rw[hown.1];exact hjn)];exact hj
  ·have hsmall:n+m<=9223372036854775807:=by simp only[maxLen]at h63;omega
   have holds:∀j u,xs[j]?=some u->w.cell? ((⟨g,0,none⟩:Addr).add j)=some u:=hown.cells (g:=g) rfl;have hr2:=run_append_grow (P:=P) w t ty e i z ht hi hz ⟨g,0,none⟩ n cap xs hown.1 holds a m c news hl hnews (by omega) (by omega) (growslice_fits (by omega) hbytes);rw[hr]at hr2;cases hr2;exact((World.cell?_of_block (a:=⟨g,j,none⟩) (heap_alloc_old w.drew _ (eS _ _ hold))).trans hold)
theorem Eo {P:Program}{ops:Array Oper}{o:Oper}{a:Act}{w:World}{K:Act->World->Prop}{Q:Exit->Act->World->Prop}{X:Prop}
 (hg:o.guard=none) (s x:Operand) (t:TypeId) (hop:o.op=Op.call { callee:=Callee.builtin Builtin.append,args:=#[s,x],argTypes:=#[t,t] })
 (base:Nat) (e:TypeId) (i:TypeInfo) (z:Value) (size bytes:Nat) (h1:P.underlying t=some (.slice e)) (h2:P.info? e=some i) (h3:i.zero=some z) (h4:i.size=size) (h5:i.bytes=bytes) (h6:z.cells.size=size) (h7:0<size)
 (g n cap:Nat) (xs:List Value) (hs:a.eval s=.slice (some ⟨g,0,none⟩) n cap) (hown:w.ownsRow base e size (.slice (some ⟨g,0,none⟩) n cap) n xs)
 (ad:Addr) (m c:Nat) (news:List Value) (hx:a.eval x=.slice (some ad) m c) (hn:news.length=m * size) (hc:∀j u,news[j]?=some u->w.cell? (ad.add j)=some u) (h1c:∀u∈news,u.oneCell'=true)
 (b1:n+m<=maxLen) (b2:(n+m) * bytes<=140737488355328) (b3:base<=w.heap.size)
 (hK:∀v' w',w'.ownsRow base e size v' (n+m) (xs++news)->w.grownBy w' (some g)->(∀j u,xs[j]?=some u->w'.cell? ⟨g,j,none⟩=some u)->K (a.put o.dst v') w') :
 if Region.wanted o (yielded ops a.tmps)=true then Oper.wp P o a w K Q else X:=by
 have hw:Region.wanted o (yielded ops a.tmps)=true:=by simp[Region.wanted,hg]
 rw[ay hw];obtain⟨v',w',hr,k2,k3,k5⟩:=AA (P:=P) w base t o.type e i z size bytes h1 h2 h3 h4 h5 h6 h7 g n cap xs hown ad m c news hn hc h1c b1 b2 b3;unfold Oper.wp execOp;simp only[hop,resolve,invoke,builtin,Sem.run_bind,Sem.run_pure,Result.andThen_ok,List.map_toArray,List.map_cons,List.map_nil,hs,hx,hr];exact hK _ _ k2 k3 k5
def Jf (w:World)(g o n:Nat)(l:List Int):Prop:=∀i,i<n->w.cell? ⟨g,o+i,none⟩=some (.int .i64 (nth l i))
theorem Jf.fr {S:List Nat}{w w':World}{g o n:Nat}{l:List Int}(h:Jf w g o n l)(hf:Fr S w w')(hg:g ∉ S):Jf w' g o n l:=fun i hi=>hf.cell (h i hi) hg
def PA (w:World)(g n:Nat)(P:Nat->Nat):Prop:=∀i,i<n->w.cell? ⟨g,i * 3+1,none⟩=some (.int .i64 (P i:Nat))
theorem PA.fr {S:List Nat}{w w':World}{g n:Nat}{P:Nat->Nat}(h:PA w g n P)(hf:Fr S w w')(hg:g ∉ S):PA w' g n P:=fun i hi=>hf.cell (h i hi) hg
def lX (w:World)(B U:Nat)(hs:List Value)(Ls:List Ln):Prop:=∀j l,Ls[j]?=some l->∃vO vX,hs[j * 4]?=some (.int .i64 l.f)/\hs[j * 4+1]?=some (.int .i64 l.t)/\hs[j * 4+2]?=some vO/\hs[j * 4+3]?=some vX/\w.ownsRow B 3 1 vO l.o.length (gz l.o)/\w.ownsRow B 2 1 vX l.x.length (gu l.x)/\(∀g,vO.ownBlock=some g->g<U)/\∀g,vX.ownBlock=some g->g<U
theorem lX.fr {w w':World}{B U:Nat}{hs:List Value}{Ls:List Ln}(h:lX w B U hs Ls)(hf:∀e v n xs,(e=3\/e=2)->(∀g,v.ownBlock=some g->g<U)->w.ownsRow B e 1 v n xs->w'.ownsRow B e 1 v n xs):lX w' B U hs Ls:=by
 intro j l hj;obtain⟨vO,vX,a1,a2,a3,a4,a5,a6,a7,a8⟩:=h j l hj;exact⟨vO,vX,a1,a2,a3,a4,hf 3 _ _ _ (.inl rfl) a7 a5,hf 2 _ _ _ (.inr rfl) a8 a6,a7,a8⟩
theorem lX.mono {w:World}{B U U':Nat}{hs:List Value}{Ls:List Ln}(h:lX w B U hs Ls)(hU:U<=U'):lX w B U' hs Ls:=by
 intro j l hj;obtain⟨vO,vX,a1,a2,a3,a4,a5,a6,a7,a8⟩:=h j l hj;exact⟨vO,vX,a1,a2,a3,a4,a5,a6,fun g hg=>bQ (a7 g hg) hU,fun g hg=>bQ (a8 g hg) hU⟩
structure LD (WB w:World)(U lb:Nat)(s:ByteArray)(base:Int)(vC vL:Value)(Cs:List (Int × Int × Int × Int))(Ls:List Ln)(hs:List Value):Prop where
 fr:Fr [lb] WB w
 lt:lb<WB.heap.size
 obj:w.heap[lb]?=some (.cells #[.string s,.int .i64 base,vC,vL] 46 (0,0))
 wT:w.ownsRow WB.heap.size 48 4 vC Cs.length (mV Cs)
 qa:w.ownsRow WB.heap.size 51 4 vL Ls.length hs
 Du:lX w WB.heap.size U hs Ls
theorem LD.iS {WB w w':World}{U lb:Nat}{s:ByteArray}{base:Int}{vC vL:Value}{Cs:List (Int × Int × Int × Int)}{Ls:List Ln}{hs:List Value}(h:LD WB w U lb s base vC vL Cs Ls hs)(hf:Fr [] w w'):LD WB w' U lb s base vC vL Cs Ls hs :=
 ⟨h.fr.trans (hf.mono (fun _ h _=>absurd h af)),h.lt,fO h.obj hf af,fS h.wT hf,fS h.qa hf,h.Du.fr (fun _ _ _ _ _ _ h=>fS h hf)⟩
theorem LD.mono {WB w:World}{U U' lb:Nat}{s:ByteArray}{base:Int}{vC vL:Value}{Cs:List (Int × Int × Int × Int)}{Ls:List Ln}{hs:List Value}(h:LD WB w U lb s base vC vL Cs Ls hs)(hU:U<=U'):LD WB w U' lb s base vC vL Cs Ls hs:=⟨h.fr,h.lt,h.obj,h.wT,h.qa,h.Du.mono hU⟩
theorem iV {w w':World}{B e size n:Nat}{v:Value}{xs:List Value}(h:w.ownsRow B e size v n xs){b:Option Nat}(hg:w.grownBy w' b)(hb:∀g,b=some g->∃cs t f,w.heap[g]?=some (.cells cs t f)/\t≠e):w'.ownsRow B e size v n xs:=by
 refine iF h hg (fun g hv e=>?_);obtain⟨cs,t,f,h1,h2⟩:=hb g e.symm
 rcases h.2 with⟨rfl,_⟩ | ⟨g',cap,cur,rfl,_,hg',_⟩
 ·cases hv
 ·simp only[Value.ownBlock,dO]at hv
  subst hv;rw[h1]at hg';cases hg';exact h2 rfl
theorem ko {w:World}{B e size n g:Nat}{v:Value}{xs:List Value}(h:w.ownsRow B e size v n xs)(hv:v.ownBlock=some g):∃cs t f,w.heap[g]?=some (.cells cs t f)/\t=e:=by
 rcases h.2 with⟨rfl,_⟩ | ⟨g',cap,cur,rfl,_,hg',_⟩
 ·cases hv
 ·simp only[Value.ownBlock,dO]at hv
  subst hv;exact⟨_,_,_,hg',rfl⟩
theorem mH {w:World}{b i:Nat}{v:Value}:w.grownBy (w.setCell ⟨b,i,none⟩ v) (some b) :=
 ⟨rfl,rfl,rfl,by simp,fun k _ hk=>fK w ⟨b,i,none⟩ k v (fun e=>hk (by simp[e]))⟩
theorem LD.grow {WB w w':World}{U lb:Nat}{s:ByteArray}{base:Int}{vC vL:Value}{Cs:List (Int × Int × Int × Int)}{Ls:List Ln}{hs:List Value}(h:LD WB w U lb s base vC vL Cs Ls hs){row:Option Nat}(hg:w.grownBy w' row)(hU:WB.heap.size<=U)
 (hb:∀g,row=some g->U<=g/\∃cs t f,w.heap[g]?=some (.cells cs t f)/\(t=3\/t=2)):LD WB w' U lb s base vC vL Cs Ls hs:=by
 have kC:∀ {e:TypeId} (_:e≠3/\e≠2) g,row=some g->∃cs t f,w.heap[g]?=some (.cells cs t f)/\t≠e:=fun he g hv=>by
  obtain⟨_,cs,t,f,a1,a2⟩:=hb g hv;exact⟨cs,t,f,a1,fun e=>by rcases a2 with a2 | a2 <;> rw[a2]at e <;> first | exact he.1 e.symm | exact he.2 e.symm⟩
 refine⟨h.fr.grown hg (fun g hv=>a_ hU (hb g hv).1),h.lt,(hg.block lb (h_ h.obj) (fun e=>by have:=(hb lb e.symm).1;have:=h.lt;omega)).trans h.obj,iV h.wT hg (kC (by decide)),iV h.qa hg (kC (by decide)),h.Du.fr (fun e v n xs he hv hh=>iF hh hg (fun g h1 h2=>by have:=hv g h1;have:=(hb g h2.symm).1;omega))⟩
theorem LD.push {WB w w1 w2:World}{U lb n:Nat}{s:ByteArray}{base:Int}{vC vL v':Value}{Cs:List (Int × Int × Int × Int)}{Ls:List Ln}{hs:List Value}{a b c d:Int}(h:LD WB w U lb s base vC vL Cs Ls hs)(hn:n=Cs.length)(hf:Fr [] w w1)
 (ho:w2.ownsRow WB.heap.size 48 4 v' (n+1) (mV Cs++[.int .i64 a,.int .i64 b,.int .i64 c,.int .i64 d])) (hg:w1.grownBy w2 vC.ownBlock) :
 w2.heap[lb]?=some (.cells #[.string s,.int .i64 base,vC,vL] 46 (0,0))/\LD WB (w2.setCell ⟨lb,2,none⟩ v') U lb s base v' vL (Cs++[(a,b,c,d)]) Ls hs/\(∀B e v n xs,e=3\/e=2->w1.ownsRow B e 1 v n xs->(w2.setCell ⟨lb,2,none⟩ v').ownsRow B e 1 v n xs):=by
 subst hn;have h1:=h.iS hf;have hk:∀g,vC.ownBlock=some g->WB.heap.size<=g:=fun g hv=>(h1.wT.lt g hv).1
 have hne:∀g,vC.ownBlock=some g->g≠lb:=fun g hv e=>by have:=hk g hv;have:=h.lt;omega
 have ho2:w2.heap[lb]?=some (.cells #[.string s,.int .i64 base,vC,vL] 46 (0,0)):=(hg.block lb (h_ h1.obj) (fun e=>hne lb e.symm rfl)).trans h1.obj;have kC:∀ {e:TypeId} (_:e≠48) g,vC.ownBlock=some g->∃cs t f,w1.heap[g]?=some (.cells cs t f)/\t≠e:=fun he g hv=>by
  obtain⟨cs,t,f,a1,a2⟩:=ko h1.wT hv;exact⟨cs,t,f,a1,fun e=>he (by rw[<-e,a2])⟩
 have kS:∀ {e:TypeId} (_:e≠46) g,some lb=some g->∃cs t f,w2.heap[g]?=some (.cells cs t f)/\t≠e:=fun he g hv=>by
  cases hv;exact⟨_,_,_,ho2,fun e=>he e.symm⟩
 have two:∀B e size v n xs,e≠48->e≠46->w1.ownsRow B e size v n xs->(w2.setCell ⟨lb,2,none⟩ v').ownsRow B e size v n xs:=fun B e size v n xs e1 e2 hh =>
  iV (iV hh hg (kC e1)) (mH (b:=lb)) (kS e2)
 refine⟨ho2,⟨(h1.fr.grown hg (fun g hv=>hk g hv)).set (aj.2 rfl) _,h.lt,fP ho2 2 v',?_,two _ 51 4 _ _ _ (by decide) (by decide) h1.qa,h1.Du.fr (fun e v n xs he _ hh=>two _ e 1 v n xs (by rcases he with rfl | rfl <;> decide) (by rcases he with rfl | rfl <;> decide) hh)⟩,fun B e v n xs he hh=>two B e 1 v n xs (by rcases he with rfl | rfl <;> decide) (by rcases he with rfl | rfl <;> decide) hh⟩;have h3:=iV ho (mH (b:=lb) (i:=2) (v:=v')) (kS (by decide));rw[aG,<-z8];exact h3
theorem LD.line {WB w w1 w2:World}{U U' lb n:Nat}{s:ByteArray}{base:Int}{vC vL vO vX v':Value}{Cs:List (Int × Int × Int × Int)}{Ls:List Ln}{hs:List Value}(l:Ln)(h:LD WB w U lb s base vC vL Cs Ls hs)(hn:n=Ls.length)(hf:Fr [] w w1)(hU:U<=U')
 (hO:w.ownsRow WB.heap.size 3 1 vO l.o.length (gz l.o)) (hX:w.ownsRow WB.heap.size 2 1 vX l.x.length (gu l.x)) (hW:w.heap.size<=U')
 (ho:w2.ownsRow WB.heap.size 51 4 v' (n+1) (hs++[.int .i64 l.f,.int .i64 l.t,vO,vX])) (hg:w1.grownBy w2 vL.ownBlock) :
 w2.heap[lb]?=some (.cells #[.string s,.int .i64 base,vC,vL] 46 (0,0))/\LD WB (w2.setCell ⟨lb,3,none⟩ v') U' lb s base vC v' Cs (Ls++[l]) (hs++[.int .i64 l.f,.int .i64 l.t,vO,vX]):=by
 subst hn;have h1:=h.iS hf;have hk:∀g,vL.ownBlock=some g->WB.heap.size<=g:=fun g hv=>(h1.qa.lt g hv).1
 have hne:∀g,vL.ownBlock=some g->g≠lb:=fun g hv e=>by have:=hk g hv;have:=h.lt;omega
 have ho2:w2.heap[lb]?=some (.cells #[.string s,.int .i64 base,vC,vL] 46 (0,0)):=(hg.block lb (h_ h1.obj) (fun e=>hne lb e.symm rfl)).trans h1.obj;have kC:∀ {e:TypeId} (_:e≠51) g,vL.ownBlock=some g->∃cs t f,w1.heap[g]?=some (.cells cs t f)/\t≠e:=fun he g hv=>by
  obtain⟨cs,t,f,a1,a2⟩:=ko h1.qa hv;exact⟨cs,t,f,a1,fun e=>he (by rw[<-e,a2])⟩
 have kS:∀ {e:TypeId} (_:e≠46) g,some lb=some g->∃cs t f,w2.heap[g]?=some (.cells cs t f)/\t≠e:=fun he g hv=>by
  cases hv;exact⟨_,_,_,ho2,fun e=>he e.symm⟩
 have two:∀B e size v n xs,e≠51->e≠46->w1.ownsRow B e size v n xs->(w2.setCell ⟨lb,3,none⟩ v').ownsRow B e size v n xs:=fun B e size v n xs e1 e2 hh =>
  iV (iV hh hg (kC e1)) (mH (b:=lb)) (kS e2)
 have hlen:hs.length=Ls.length * 4:=h.qa.1;have hin:lX (w2.setCell ⟨lb,3,none⟩ v') WB.heap.size U' hs Ls:=(h1.Du.mono hU).fr (fun e v n xs he _ hh=>two _ e 1 v n xs (by rcases he with rfl | rfl <;> decide) (by rcases he with rfl | rfl <;> decide) hh);refine⟨ho2,(h1.fr.grown hg (fun g hv=>hk g hv)).set (aj.2 rfl) _,h.lt,fP ho2 3 v',two _ 48 4 _ _ _ (by decide) (by decide) h1.wT,?_,?_⟩
 ·have h3:=iV ho (mH (b:=lb) (i:=3) (v:=v')) (kS (by decide))
  rw[aG];exact h3
 ·intro j m hj
  rcases bT j Ls.length with hlt | heq | hgt
  ·rw[aJ hlt]at hj
   obtain⟨vO',vX',a1,a2,a3,a4,a5⟩:=hin j m hj;refine⟨vO',vX',?_,?_,?_,?_,a5⟩
   all_goals (rw[aJ (by omega)];assumption)
  ·subst heq
   rw[aI (ak _),bY]at hj;simp only[List.getElem?_cons_zero,dO]at hj;subst hj;refine⟨vO,vX,?_,?_,?_,?_,two _ 3 1 _ _ _ (by decide) (by decide) (fS hO hf),two _ 2 1 _ _ _ (by decide) (by decide) (fS hX hf),fun g hv=>bQ (hO.lt g hv).2 hW,fun g hv=>bQ (hX.lt g hv).2 hW⟩
   all_goals (rw[aI (by omega)];simp[hlen])
  ·rw[aI (by omega)]at hj
   obtain⟨d,hd⟩:∃d,j - Ls.length=d+1:=⟨j - Ls.length - 1,by omega⟩;rw[hd]at hj;simp at hj
def nU:List (Nat × Nat)->List Value
 | []=>[]
 | x :: l=>.int .i64 (x.1:Nat) :: .int .i64 (x.2:Nat) :: nU l
theorem z_:∀l m:List (Nat × Nat),nU l++nU m=nU (l++m)
 | [],_=>rfl
 | x :: l,m=>by simp only[nU,b8,z_ l m]
theorem wU:∀(l:List (Nat × Nat)) (i:Nat) (x:Nat × Nat),l[i]?=some x->(nU l)[i * 2]?=some (.int .i64 (x.1:Nat))/\(nU l)[i * 2+1]?=some (.int .i64 (x.2:Nat))
 | [],i,x,h=>by simp at h
 | y :: l,0,x,h=>by simp at h;subst h;exact⟨rfl,rfl⟩
 | y :: l,i+1,x,h=>by
   have ih:=wU l i x (by simpa using h);rw[show(i+1) * 2=i * 2+1+1 by omega];exact ih
theorem TU (a b:Int):∀u∈[Value.int .i64 a,.int .i64 b],u.oneCell'=true:=by
 intro u hu;simp only[bK,af,eR]at hu
 rcases hu with rfl | rfl <;> rfl
theorem TV:(Tryz.prog.info? 250).map (fun i=>(i.zero,i.size,i.bytes))=some (some (.agg #[.int .i64 0,.int .i64 0]),2,16):=by kernel_rfl
theorem uf (p:Nat->Bool)(l:List Nat):∀g,(fV p l g).1.length<=g/\(fV p l g).2<=g
 | 0=>by simp[fV]
 | g+1=>by
   have ih:=uf p l g;rw[fV];split
   ·omega
   ·dsimp only
    split
    ·rw[aG,bH];omega
    ·omega
theorem jr (w:World)(q:Nat):Fr [] w (w.drewN q):=(Fr.refl [] w).drewN q
theorem L8 (F:Nat)(caps:Array Value)(p:Nat->Bool)(o:List Nat)(g c:Nat)(w:World)(hl:o.length<=1000)(hrow:BH w g o.length o)(eg:∀args w,(callFunc F args).run prog w=.ok (.enter F args) w)
 (hf:∀X,Fr [] w X->∀i,i<o.length->Calls prog F (#[.int .i64 (fX o i:Nat)]++caps) X fun e w'=>e=.returned (.bool (p (fX o i)))/\∃q,w'=X.drewN q) :
 Calls prog 115 #[.slice (some ⟨g,0,none⟩) o.length c,.func (.func F) #[] caps] w fun e w'=>∃v,e=.returned v/\w'.ownsRow w.heap.size 250 2 v (Lay.parts p o).length (nU (Lay.parts p o))/\Fr [] w w':=by
 obtain⟨i0,hi,hz0,hz1,hz2⟩:=e_ TV;have HR:=hid hrow;have HF:=hid hf;have KL:=hid (uf p o);have HST:=hid (fun k=>show fV p o (k+1)=if k<o.length/\p (fX o k)=true then fV p o k else(if(fV p o k).2<k then(fV p o k).1++[((fV p o k).2,k)]else(fV p o k).1,k+1)from rfl);obtain⟨R,hR⟩:∃R,R=Lay.parts p o:=⟨_,rfl⟩;rw[<-hR];obtain⟨n,hn⟩:∃n,n=o.length:=⟨_,rfl⟩;have HRR:=hid (show R=(fV p o (n+1)).1 by rw[hR,hn];rfl);rw[<-hn]at hl HR HF HST ⊢;clear hrow hf hR hn;go_enter func115,ntmps115;go_wp2_with fail;go_loopw [5,6,11] (fun vo ff gg wr=>∃(k:Nat),gg=.int .i64 k/\k<=n+1/\ff=.int .i64 ((fV p o k).2:Nat)/\Hid (wr.ownsRow w.heap.size 250 2 vo (fV p o k).1.length (nU (fV p o k).1))/\Hid (Fr [] w wr)) (fun _ _ gg _=>n+1 - (intOf gg).toNat)
 case atStart=>exact⟨0,rfl,aH _,rfl,hid (eY _ _ _ _),hid (Fr.refl _ _)⟩
 case round =>
  obtain⟨k,rfl,hkn,rfl,HO,Dz⟩:=hrel;by_cases hkl:k<n+1
  ·have sX:(k:Int)<(n:Int)+1:=by omega
   have HS:=hid (HST.out k);have hp1:=KL.out k;have hsz:=Dz.out.size;by_cases hka:k<n/\p (fX o k)=true
   ·obtain⟨h1,h2⟩:=hka
    have HS2:=hid (show fV p o (k+1)=fV p o k by rw[HS.out,ay ⟨h1,h2⟩]);have d0:=HR.out.fr Dz.out af k h1;have HC:=hid (HF.out wr Dz.out k h1);rw[h2]at HC;have TW:(k:Int)<(n:Int):=by omega
    clear h2 HS;generalize fX o k=x at *;obtain⟨f0,hf0⟩:∃f0,f0=(fV p o k).2:=⟨_,rfl⟩;rw[<-hf0];have Ep:=hid hf0;clear hf0;go_wp2_with (go_at_fn F;refine HC.out.mono ?_;rintro e w' ⟨rfl,mm,rfl⟩);go_roundw
    case rel=>exact⟨k+1,by go_num,by omega,by rw[HS2.out,Ep.out],hid (by rw[HS2.out];exact HO.out),hid (Dz.out.drewN _)⟩
    case measure=>simp[intOf];omega
   ·have HS2:=hid (show(fV p o (k+1)).2=k+1/\(fV p o (k+1)).1=if(fV p o k).2<k then(fV p o k).1++[((fV p o k).2,k)]else(fV p o k).1 by rw[HS.out,au hka];exact⟨rfl,rfl⟩)
    obtain⟨f0,hf0⟩:∃f0,f0=(fV p o k).2:=⟨_,rfl⟩;obtain⟨l0,hl0⟩:∃l0,l0=(fV p o k).1:=⟨_,rfl⟩;rw[<-hf0]at HS2 hp1 ⊢;rw[<-hl0]at HS2 hp1 HO;clear hf0 hl0 HS
    -- the test is false: two ways
    have hcs:(k<n/\p (fX o k)=false)\/¬k<n:=by
     by_cases h:k<n
     ·exact .inl ⟨h,by cases hh:p (fX o k);rfl;exact absurd ⟨h,hh⟩ hka⟩
     ·exact .inr h
    clear hka;obtain⟨ajc,ajd⟩:=hp1;by_cases hfk:f0<k
    ·have hfI:(f0:Int)<(k:Int):=by omega
     have Xr:=hid (show(fV p o (k+1)).1=l0++[(f0,k)] by rw[HS2.out.2,ay hfk])
     rcases hcs with⟨h1,h2⟩ | h1
     case' inl =>
      have d0:=HR.out.fr Dz.out af k h1;have HC:=hid (HF.out wr Dz.out k h1);rw[h2]at HC;have TW:(k:Int)<(n:Int):=by omega
      clear h2;generalize fX o k=x at *
     case' inr =>
      have TW:¬(k:Int)<(n:Int):=by omega
      have h1J:decide ((k:Int)<(n:Int))=false:=aK TW;have HC:Hid True:=trivial
     all_goals (
      go_wp2_with (first | (go_at_fn F;refine HC.out.mono ?_;rintro e w' ⟨rfl,mm,rfl⟩) | (at_builtin;refine eV _ rfl _ _ 176 rfl w.heap.size 250 i0 _ 2 16 underlying176 hi hz0 hz1 hz2 rfl (by decide) _ l0.length (nU l0) rfl ?own _ 1 1 [.int .i64 (f0:Nat),.int .i64 (k:Nat)] rfl rfl (iC _ _ _ _ (by simp)) (TU _ _) (by unfold maxLen;omega) (by omega) ?nY ?_))
      case own=>exact fS HO.out (by first | exact(Fr.refl [] _).alloc _ | exact(jr _ _).alloc _)
      case nY=>first | omega | (simp;omega)
      intro v' w3 gM hgrow hnil
      have iO:=hid (Fr.grown (by first | exact Dz.out.alloc _ | exact(Dz.out.drewN _).alloc _) hgrow (fun x h=>(HO.out.lt x h).1))
      have k9:=hid gM
      clear gM hgrow hnil
      go_wp2
      go_roundw
      case rel=>exact⟨k+1,by go_num,by omega,by rw[HS2.out.1];go_num,hid (by rw[Xr.out,aG,<-z_];exact k9.out),iO⟩
      case measure=>simp[intOf];omega)
    ·have hfI:¬(f0:Int)<(k:Int):=by omega
     have Xr:=hid (show(fV p o (k+1)).1=l0 by rw[HS2.out.2,au hfk])
     rcases hcs with⟨h1,h2⟩ | h1
     case' inl =>
      have d0:=HR.out.fr Dz.out af k h1;have HC:=hid (HF.out wr Dz.out k h1);rw[h2]at HC;have TW:(k:Int)<(n:Int):=by omega
      clear h2;generalize fX o k=x at *
     case' inr =>
      have TW:¬(k:Int)<(n:Int):=by omega
      have h1J:decide ((k:Int)<(n:Int))=false:=aK TW;have HC:Hid True:=trivial
     all_goals (
      go_wp2_with (first | (go_at_fn F;refine HC.out.mono ?_;rintro e w' ⟨rfl,mm,rfl⟩))
      go_roundw
      case rel=>exact⟨k+1,by go_num,by omega,by rw[HS2.out.1];go_num,hid (by rw[Xr.out];exact HO.out),by first | exact hid (Dz.out.drewN _) | exact Dz⟩
      case measure=>simp[intOf];omega)
  ·obtain rfl:k=n+1:=by omega
   generalize (fV p o (n+1)).2=f0 at *;have sX:¬((n+1:Nat):Int)<(n:Int)+1:=by omega
   have iG:=hid (show wr.ownsRow w.heap.size 250 2 u5 R.length (nU R) by rw[HRR.out];exact HO.out);go_wp2;go_ret;exact⟨_,rfl,iG.out,Dz.out⟩
end Go.Proofs.YtnakejhohdbfdaaGreatDoor
namespace Go.Proofs
open Go.Shelf Go.RowKit Go.Proofs.Tryz
def Tryz.GD:Go.Shelf.Ren:=⟨fun | 195=>220 | n=>n,fun | 9=>9 | 3=>3 | 0=>0 | 4=>4 | n=>n,fun | n=>n⟩
theorem Tryz.TX:Go.Proofs.Lays.n195 prog Tryz.GD:={
 mixed:=by kernel_rfl
 f195:=Tryz.func220.trans (congrArg some (by kernel_rfl))
 t0:=underlying0
 a0:=isAgg0
 z0:=sizeOf0
 v0:=zeroValue0
 t3:=underlying3
 a3:=isAgg3
 z3:=sizeOf3
 v3:=zeroValue3
 t4:=underlying4
 a4:=isAgg4
 z4:=sizeOf4
 v4:=zeroValue4
 t9:=underlying9
 a9:=isAgg9
 z9:=sizeOf9
 v9:=zeroValue9 }
theorem Tryz.utf8_RuneCountInString (s:ByteArray)(w:World)(hs:s.size<9223372036854775807) :
 Calls prog 220 #[.string s] w fun e w'=>e=.returned (.int .i64 (Lib.runeCount s))/\∃pos,w'=w.iter s pos:=Any.utf8_RuneCountInString Tryz.TX s w hs
def Tryz.GF:Go.Shelf.Ren:=⟨fun | 108=>104 | n=>n,fun | 28=>22 | 3=>3 | 0=>0 | 4=>4 | n=>n,fun | n=>n⟩
theorem Tryz.TY:Go.Proofs.Lays.n108 prog Tryz.GF:={
 mixed:=by kernel_rfl
 f108:=Tryz.func104.trans (congrArg some (by kernel_rfl))
 t0:=underlying0
 a0:=isAgg0
 z0:=sizeOf0
 v0:=zeroValue0
 t3:=underlying3
 a3:=isAgg3
 z3:=sizeOf3
 v3:=zeroValue3
 t4:=underlying4
 a4:=isAgg4
 z4:=sizeOf4
 v4:=zeroValue4
 t28:=underlying22
 a28:=isAgg22
 z28:=sizeOf22
 v28:=zeroValue22 }
theorem Tryz.slices_Index_int (b off n c:Nat)(zs:List Int)(x:Int)(w:World)(hz:n<=zs.length)(hbig:n<=9223372036854775807)(hc:∀j,j<zs.length->w.cell? ⟨b,off+j,none⟩=some (.int .i64 (zs.getD j 0))) :
 Calls prog 104 #[.slice (some ⟨b,off,none⟩) n c,.int .i64 x] w fun e w'=>e=.returned (.int .i64 (Lib.idxOf (zs.take n) x))/\w'=w:=Any.slices_Index_int Tryz.TY b off n c zs x w hz hbig hc
def Tryz.GG:Go.Shelf.Ren:=⟨fun | 112=>256 | n=>n,fun | 28=>22 | 3=>3 | 4=>4 | 0=>0 | n=>n,fun | n=>n⟩
theorem Tryz.TZ:Go.Proofs.Lays.n112 prog Tryz.GG:={
 mixed:=by kernel_rfl
 f112:=Tryz.func256.trans (congrArg some (by kernel_rfl))
 t0:=underlying0
 a0:=isAgg0
 z0:=sizeOf0
 v0:=zeroValue0
 t3:=underlying3
 a3:=isAgg3
 z3:=sizeOf3
 v3:=zeroValue3
 t4:=underlying4
 a4:=isAgg4
 z4:=sizeOf4
 v4:=zeroValue4
 t28:=underlying22
 a28:=isAgg22
 z28:=sizeOf22
 v28:=zeroValue22 }
def Tryz.DL:Go.Shelf.Ren:=⟨fun | 25=>166 | 31=>209 | 32=>210 | 37=>231 | n=>n,fun | 22=>22 | 3=>3 | 4=>4 | 40=>283 | 0=>0 | n=>n,fun | n=>n⟩
theorem Tryz.Er:Go.Proofs.Lays2.n25 prog Tryz.DL:={
 mixed:=by kernel_rfl
 f25:=Tryz.func166.trans (congrArg some (by kernel_rfl))
 f31:=Tryz.func209.trans (congrArg some (by kernel_rfl))
 f32:=Tryz.func210.trans (congrArg some (by kernel_rfl))
 f37:=Tryz.func231.trans (congrArg some (by kernel_rfl))
 t0:=underlying0
 a0:=isAgg0
 z0:=sizeOf0
 v0:=zeroValue0
 t3:=underlying3
 a3:=isAgg3
 z3:=sizeOf3
 v3:=zeroValue3
 t4:=underlying4
 a4:=isAgg4
 z4:=sizeOf4
 v4:=zeroValue4
 t22:=underlying22
 a22:=isAgg22
 z22:=sizeOf22
 v22:=zeroValue22
 t40:=underlying283
 a40:=isAgg283
 z40:=sizeOf283
 v40:=zeroValue283 }
theorem Tryz.slices_BinarySearch_int (b off n c:Nat)(zs:List Int)(x:Int)(w:World)(hz:n<=zs.length)(hbig:n<4611686018427387904)(hc:∀j,j<zs.length->w.cell? ⟨b,off+j,none⟩=some (.int .i64 (zs.getD j 0)))(hs:(zs.take n).Pairwise (·<=·)) :
 Calls prog 166 #[.slice (some ⟨b,off,none⟩) n c,.int .i64 x] w fun e w'=>e=.returned (.tuple #[.int .i64 ((zs.take n).countP (·<x):Nat),.bool ((zs.take n).contains x)])/\∃q,w'=w.drewN q:=Any.slices_BinarySearch_int Tryz.Er b off n c zs x w hz hbig hc hs
theorem Tryz.slices_Reverse_int_cells (b off n c:Nat)(zs:List Int)(w:World)(hz:n<=zs.length)(hbig:n<=9223372036854775807)(hc:∀j,j<zs.length->w.cell? ⟨b,off+j,none⟩=some (.int .i64 (zs.getD j 0)))(hf:∀j,j<n->w.frozen? ⟨b,off+j,none⟩=false) :
 Calls prog 256 #[.slice (some ⟨b,off,none⟩) n c] w fun e w'=>e=.returned (.tuple #[])/\∃q,w'=(w.drewN q).setCells b off ((zs.take n).reverse.map (Value.int .i64)):=Any.slices_Reverse_int_cells Tryz.TZ b off n c zs w hz hbig hc hf
end Go.Proofs
namespace Go.Proofs.YtnakejhohdbfdaaGreatDoor
open Go.RowKit jN Go.Proofs.Tryz
theorem xY (c:Int)(w:World):Calls prog 181 #[.int .i64 c] w fun e w'=>e=.returned (.bool (j6 c))/\w'=w:=by
 go_enter func181,ntmps181;go_wp2
 all_goals go_ret
 all_goals refine⟨nF ?_,rfl⟩
 all_goals simp[j6, *]
theorem GH (c:Int)(w:World):Calls prog 188 #[.int .i64 c] w fun e w'=>e=.returned (.bool (j6 c || c == 22))/\w'=w:=by
 generalize hi:j6 c=b;have HI:=hid hi;clear hi;cases b
 all_goals (
  go_enter func188,ntmps188
  go_wp2_with (go_at_call 181;refine(xY _ _).mono ?_;rintro e w' ⟨rfl,rfl⟩;rw[HI.out]))
 all_goals go_ret
 all_goals refine⟨nF ?_,rfl⟩
 all_goals simp
theorem Ce (c:Int)(w:World):Calls prog 158 #[.int .i64 c] w fun e w'=>e=.returned (.bool (gone c))/\w'=w:=by
 have HG:=hid (show gone c=decide (c=9\/c=14\/c=15\/c=16\/c=17\/c=18) by unfold gone;simp[Bool.decide_or,Bool.or_assoc];rfl);generalize gone c=g at *;go_enter func158,ntmps158;go_wp2
 all_goals go_ret
 all_goals refine⟨nF ?_,rfl⟩
 all_goals (rw[HG.out];simp only[beq_iff_eq,aF,ne_eq]at *;first | (rw[aZ (by omega)];done) | (rw[aK (by omega)];done))
theorem PB (c:Int)(w:World):Calls prog 154 #[.int .i64 c] w fun e w'=>e=.returned (.bool (yN c))/\w'=w:=by
 have HG:=hid (show yN c=decide (c=10\/c=11\/c=12\/c=13\/c=19\/c=20\/c=21\/c=22) by unfold yN;simp[Bool.decide_or,Bool.or_assoc];rfl);generalize yN c=g at *;go_enter func154,ntmps154;go_wp2
 all_goals go_ret
 all_goals refine⟨nF ?_,rfl⟩
 all_goals (rw[HG.out];simp only[beq_iff_eq,aF,ne_eq]at *;first | (rw[aZ (by omega)];done) | (rw[aK (by omega)];done))
theorem xZ (c:Int)(w:World):Calls prog 149 #[.int .i64 c] w fun e w'=>e=.returned (.int .i64 (side c))/\w'=w:=by
 go_enter func149,ntmps149;go_wp2
 all_goals go_ret
 all_goals refine⟨pE ?_,rfl⟩
 all_goals (simp only[beq_iff_eq,aF,ne_eq]at *;(try subst c);simp[side, *])
theorem PC (r:Int)(w:World):Calls prog 190 #[.int .i32 r] w fun e w'=>e=.returned (.int .i32 (jB r))/\w'=w:=by
 go_enter func190,ntmps190;go_wp2
 all_goals go_ret
 all_goals refine⟨pE ?_,rfl⟩
 all_goals (simp only[beq_iff_eq,aF,ne_eq]at *;(try subst r);simp[jB, *])
theorem PD (c:Int)(w:World):Calls prog 185 #[.int .i64 c] w fun e w'=>e=.returned (.int .i64 (DE c))/\w'=w:=by
 go_enter func185,ntmps185;go_wp2
 all_goals go_ret
 all_goals refine⟨pE ?_,rfl⟩
 all_goals (simp only[beq_iff_eq,aF,ne_eq]at *;(try subst c);simp[DE, *])
theorem Cf (b:Bool)(w:World):Calls prog 127 #[.bool b] w fun e w'=>e=.returned (.int .i64 (if b then 1 else 0))/\w'=w:=by
 cases b
 all_goals (
  go_enter func127,ntmps127
  go_wp2
  go_ret
  exact⟨rfl,rfl⟩)
theorem PE (c:Int)(w:World):Calls prog 189 #[.int .i64 c] w fun e w'=>e=.returned (.bool (qm c))/\w'=w:=by
 go_enter func189,ntmps189;go_wp2
 all_goals go_ret
 all_goals exact⟨nF rfl,rfl⟩
theorem Cg (l b:Int)(w:World)(hl:0<=l):Calls prog 135 #[.int .i64 l,.int .i64 b] w fun e w'=>e=.returned (.int .i64 (way (max l b)))/\w'=w:=by
 have HW:=hid (show way (max l b)=if max l b % 2=1 then 1 else 0 from rfl);generalize way (max l b)=v at *;go_enter func135,ntmps135;go_wp2
 all_goals go_ret
 all_goals refine⟨pE ?_,rfl⟩
 all_goals (rw[HW.out];simp only[beq_iff_eq,aF,ne_eq]at *;split <;> omega)
structure UH where
 U:Nat
 n:Nat
 R:List Int
 K:List Int
structure US (w:World)(q:UH)(C L:List Int):Prop where
 r:∀i,i<q.n->w.cell? ⟨q.U,i * 4,none⟩=some (.int .i32 (nth q.R i))
 k:∀i,i<q.n->w.cell? ⟨q.U,i * 4+1,none⟩=some (.int .i64 (nth q.K i))
 c:∀i,i<q.n->w.cell? ⟨q.U,i * 4+2,none⟩=some (.int .i64 (nth C i))
 l:∀i,i<q.n->w.cell? ⟨q.U,i * 4+3,none⟩=some (.int .i64 (nth L i))
 soft:∀j,j<q.n * 4->w.frozen? ⟨q.U,j,none⟩=false
 lC:C.length=q.n
 lL:L.length=q.n
structure SS (w:World)(q:UH)(S Q cQ:Nat)(s:Sq)(lv:Int):Prop where
 c0:w.cell? ⟨S,0,none⟩=some (.slice (some ⟨Q,0,none⟩) s.I.length cQ)
 c1:w.cell? ⟨S,1,none⟩=some (.int .i64 lv)
 c2:w.cell? ⟨S,2,none⟩=some (.int .i64 s.iq)
 c3:w.cell? ⟨S,3,none⟩=some (.int .i64 s.jR)
 p:∀k,k<s.I.length->w.cell? ⟨Q,k,none⟩=some (.pointer (some ⟨q.U,fX s.I k * 4,none⟩))
 lt:∀k,k<s.I.length->fX s.I k<q.n
 ne:S≠q.U/\Q≠q.U
 sm:s.I.length<=1000000
 cp:s.I.length<=cQ
theorem SS.fr {T:List Nat}{w w':World}{q:UH}{S Q cQ:Nat}{s:Sq}{lv:Int}(h:SS w q S Q cQ s lv)(hf:Fr T w w')(hS:S ∉ T)(hQ:Q ∉ T):SS w' q S Q cQ s lv :=
 ⟨hf.cell h.c0 hS,hf.cell h.c1 hS,hf.cell h.c2 hS,hf.cell h.c3 hS,fun k hk=>hf.cell (h.p k hk) hQ,h.lt,h.ne,h.sm,h.cp⟩
theorem US.fr {T:List Nat}{w w':World}{q:UH}{C L:List Int}(h:US w q C L)(hf:Fr T w w')(hU:q.U ∉ T):US w' q C L:=by
 refine⟨fun i hi=>hf.cell (h.r i hi) hU,fun i hi=>hf.cell (h.k i hi) hU,fun i hi=>hf.cell (h.c i hi) hU,fun i hi=>hf.cell (h.l i hi) hU,fun j hj=>?_,h.lC,h.lL⟩;have hb:q.U<w.heap.size:=eS _ _ (h.r 0 (by omega));exact(World.frozen?_of_block (a:=⟨q.U,j,none⟩) (hf.block q.U hb hU)).trans (h.soft j hj)
theorem US.oX {w:World}{q:UH}{C L:List Int}(h:US w q C L){i:Nat}(hi:i<q.n)(v:Int):US (w.setCell ⟨q.U,i * 4+2,none⟩ (.int .i64 v)) q (C.set i v) L:=by
 have other:∀ {o:Nat} {x:Value},o≠i * 4+2->w.cell? ⟨q.U,o,none⟩=some x->(w.setCell ⟨q.U,i * 4+2,none⟩ (.int .i64 v)).cell? ⟨q.U,o,none⟩=some x:=fun ho hx=>by
  rw[fD _ _ _ _ (fun e=>ho (by cases e;rfl))];exact hx
 refine⟨fun j hj=>other (by omega) (h.r j hj),fun j hj=>other (by omega) (h.k j hj),fun j hj=>?_,fun j hj=>other (by omega) (h.l j hj),fun j hj=>by rw[World.frozen?_setCell];exact h.soft j hj,by rw[aY];exact h.lC,h.lL⟩;rw[sJ C i v j (by rw[h.lC];exact hi)];by_cases e:j=i
 ·subst e;rw[ay rfl,fG _ _ _ (h.c j hj)]
 ·rw[au e];exact other (by omega) (h.c j hj)
theorem US.DH {w:World}{q:UH}{C L:List Int}(h:US w q C L){i:Nat}(hi:i<q.n)(v:Int):US (w.setCell ⟨q.U,i * 4+3,none⟩ (.int .i64 v)) q C (L.set i v):=by
 have other:∀ {o:Nat} {x:Value},o≠i * 4+3->w.cell? ⟨q.U,o,none⟩=some x->(w.setCell ⟨q.U,i * 4+3,none⟩ (.int .i64 v)).cell? ⟨q.U,o,none⟩=some x:=fun ho hx=>by
  rw[fD _ _ _ _ (fun e=>ho (by cases e;rfl))];exact hx
 refine⟨fun j hj=>other (by omega) (h.r j hj),fun j hj=>other (by omega) (h.k j hj),fun j hj=>other (by omega) (h.c j hj),fun j hj=>?_,fun j hj=>by rw[World.frozen?_setCell];exact h.soft j hj,h.lC,by rw[aY];exact h.lL⟩;rw[sJ L i v j (by rw[h.lL];exact hi)];by_cases e:j=i
 ·subst e;rw[ay rfl,fG _ _ _ (h.l j hj)]
 ·rw[au e];exact other (by omega) (h.l j hj)
theorem x_ (q:UH)(C L:List Int)(S Q cQ:Nat)(s:Sq)(lv:Int)(k:Nat)(w:World)(hu:US w q C L)(hs:SS w q S Q cQ s lv)(hk:k<=s.I.length) :
 Calls prog 155 #[.pointer (some ⟨S,0,none⟩),.int .i64 k] w fun e w'=>e=.returned (.int .i64 (ah s C k))/\w'=w:=by
 have c0:=hs.c0;have c2:=hs.c2
 rcases aS k with h0 | h0
 ·subst h0
  rw[show ah s C 0=s.iq from rfl];go_enter func155,ntmps155;go_wp2;go_ret;exact⟨rfl,rfl⟩
 ·obtain⟨j,hj⟩:∃j,k=j+1:=⟨k - 1,by omega⟩
  have p1:=hs.p j (by omega);have p2:=hu.c _ (hs.lt j (by omega));have sm:=hs.sm;rw[show ah s C k=nth C (fX s.I j) by rw[hj,ah,au (by omega)];rfl];generalize nth C (fX s.I j)=y at *;generalize fX s.I j=i at *;have hz:(k:Int) - 1=(j:Int):=by omega
  have hz2:¬(k:Int)=0:=by omega
  have hz3:¬k=0:=by omega
  have hjm:j<s.I.length:=by omega
  generalize s.I.length=m at *;clear hu hs hj;go_enter func155,ntmps155;go_wp2;go_ret;exact⟨rfl,rfl⟩
theorem Ch (q:UH)(C L:List Int)(S Q cQ:Nat)(s:Sq)(lv:Int)(k:Nat)(w:World)(hu:US w q C L)(hs:SS w q S Q cQ s lv)(hk:k<=s.I.length) :
 Calls prog 156 #[.pointer (some ⟨S,0,none⟩),.int .i64 k] w fun e w'=>e=.returned (.int .i64 (tE s C k))/\w'=w:=by
 have c0:=hs.c0;have c3:=hs.c3;have sm:=hs.sm
 rcases bP k s.I.length with h0 | h0
 ·have p1:=hs.p k h0
  have p2:=hu.c _ (hs.lt k h0);rw[show tE s C k=nth C (fX s.I k) by rw[tE,ay h0]];generalize nth C (fX s.I k)=y at *;generalize fX s.I k=i at *;generalize s.I.length=m at *;have hz:¬(k:Int)=(m:Int):=by omega
  have hz2:¬k=m:=by omega
  clear hu hs hk;go_enter func156,ntmps156;go_wp2;go_ret;exact⟨rfl,rfl⟩
 ·rw[show tE s C k=s.jR by rw[tE,au (by omega)]]
  have hz:k=s.I.length:=by omega
  rw[hz];generalize s.I.length=m at *;clear hu hs hk;go_enter func156,ntmps156;go_wp2;go_ret;exact⟨rfl,rfl⟩
theorem Ci (q:UH)(S Q cQ:Nat)(s:Sq)(lv:Int)(w:World)(hs:SS w q S Q cQ s lv)(hl:0<=lv) :
 Calls prog 150 #[.pointer (some ⟨S,0,none⟩)] w fun e w'=>e=.returned (.int .i64 (way lv))/\∃m,w'=w.drewN m:=by
 have c1:=hs.c1;have HC:=hid (fun w=>Cg lv lv w hl);rw[show max lv lv=lv by omega]at HC;clear hs;go_enter func150,ntmps150;go_wp2;go_quiet (first | (go_at_call 135;exact Calls.quiet_of_same (HC.out _)));go_wp2;go_ret;exact⟨rfl,_,rfl⟩
theorem L9 (I:List Nat)(C:List Int)(k:Nat):(cl I C k=2->nJ I C k=put I C k 1)/\(¬cl I C k=2->nJ I C k=C) :=
 ⟨fun h=>by rw[nJ,ay h],fun h=>by rw[nJ,au h]⟩
theorem PF (q:UH)(C L:List Int)(S Q cQ:Nat)(s:Sq)(lv:Int)(w:World)(hu:US w q C L)(hs:SS w q S Q cQ s lv) :
 Calls prog 142 #[.pointer (some ⟨S,0,none⟩)] w fun e w'=>e=.returned (.tuple #[])/\US w' q (mP s.I s.I.length C) L/\Fr [q.U] w w':=by
 have c0:=hs.c0;have sm:=hs.sm;have nS:=hs.ne.1;have nQ:=hs.ne.2;have HU:=hid hu;have HS:=hid hs;obtain⟨m,hm⟩:∃m,m=s.I.length:=⟨_,rfl⟩;have HM:=hid hm;rw[<-hm]at c0 sm ⊢;clear hu hs hm;go_enter func142,ntmps142;go_wp2;go_loopw [9] (fun a wr=>∃(k:Nat),a=.int .i64 k/\k<=m/\Hid (US wr q (mP s.I k C) L)/\Hid (Fr [q.U] w wr)) (fun a _=>m - (intOf a).toNat)
 case atStart=>exact⟨0,rfl,aH _,HU,hid (Fr.refl _ _)⟩
 case round =>
  obtain⟨k,rfl,hk,HP,HF⟩:=hrel;by_cases hlt:k<m
  ·have hs':=HS.out.fr HF.out (fun h=>nS (aj.1 h)) (fun h=>nQ (aj.1 h))
   have p1:=hs'.p k (by rw[<-HM.out];exact hlt);have hi:=hs'.lt k (by rw[<-HM.out];exact hlt);have p2:=HP.out.c _ hi;have p3:=HP.out.soft (fX s.I k * 4+2) (by omega);have qp:=hid (fun z=>HP.out.oX hi z);have HST:=hid (show mP s.I (k+1) C=nJ s.I (mP s.I k C) k from rfl);have mo:=hid (L9 s.I (mP s.I k C) k);rw[<-HST.out]at mo;generalize rN:mP s.I (k+1) C=N2 at *;have lQ:=hid rN;clear rN hs' HST;generalize mP s.I k C=N at *;dsimp only[cl,put]at *;generalize fX s.I k=i at *;generalize nth N i=y at *;by_cases hy:y=2
   ·have HN:=hid (mo.out.1 hy)
    subst hy;go_wp2;go_roundw
    case rel=>exact⟨k+1,by go_num,by omega,hid (by rw[lQ.out,HN.out];exact qp.out 1),hid (HF.out.set (aj.2 rfl) _)⟩
    case measure=>simp[intOf];omega
   ·have HN:=hid (mo.out.2 hy)
    go_wp2;go_roundw
    case rel=>exact⟨k+1,by go_num,by omega,hid (by rw[lQ.out,HN.out];exact HP.out),HF⟩
    case measure=>simp[intOf];omega
  ·have hk2:k=m:=by omega
   have tH:=hid (show US wr q (mP s.I m C) L by rw[<-hk2];exact HP.out);clear hk2;go_wp2;go_end0;exact⟨rfl,tH.out,HF.out⟩
theorem Fo {w wr:World}{q:UH}{C L:List Int}{S Q cQ:Nat}{s:Sq}{lv:Int}(hu:US wr q C L)(hs:SS w q S Q cQ s lv)(hf:Fr [q.U] w wr){k:Nat}(hk:k<s.I.length) :
 fX s.I k<q.n/\wr.cell? ⟨Q,k,none⟩=some (.pointer (some ⟨q.U,fX s.I k * 4,none⟩))/\wr.cell? ⟨q.U,fX s.I k * 4+2,none⟩=some (.int .i64 (nth C (fX s.I k)))/\wr.frozen? ⟨q.U,fX s.I k * 4+2,none⟩=false/\wr.cell? ⟨q.U,fX s.I k * 4+1,none⟩=some (.int .i64 (nth q.K (fX s.I k))) :=
 have hs':=hs.fr hf (fun h=>hs.ne.1 (aj.1 h)) (fun h=>hs.ne.2 (aj.1 h));have hi:=hs'.lt k hk
 ⟨hi,hs'.p k hk,hu.c _ hi,hu.soft _ (by omega),hu.k _ hi⟩
theorem SS.KM {w wr:World}{q:UH}{S Q cQ:Nat}{s:Sq}{lv:Int}(hs:SS w q S Q cQ s lv)(hf:Fr [q.U] w wr):SS wr q S Q cQ s lv :=
 hs.fr hf (fun h=>hs.ne.1 (aj.1 h)) (fun h=>hs.ne.2 (aj.1 h))
theorem ug (I:List Nat)(C:List Int)(k:Nat):(cl I C k=4\/cl I C k=5\/cl I C k=7->jY I C k=put I C k 13)/\(¬(cl I C k=4\/cl I C k=5\/cl I C k=7)->jY I C k=C) :=
 ⟨fun h=>by rw[jY,ay h],fun h=>by rw[jY,au h]⟩
theorem PG (q:UH)(C L:List Int)(S Q cQ:Nat)(s:Sq)(lv:Int)(w:World)(hu:US w q C L)(hs:SS w q S Q cQ s lv) :
 Calls prog 145 #[.pointer (some ⟨S,0,none⟩)] w fun e w'=>e=.returned (.tuple #[])/\US w' q (iL s.I s.I.length C) L/\Fr [q.U] w w':=by
 have c0:=hs.c0;have sm:=hs.sm;have HU:=hid hu;have HS:=hid hs;obtain⟨m,hm⟩:∃m,m=s.I.length:=⟨_,rfl⟩;have HM:=hid hm;rw[<-hm]at c0 sm ⊢;clear hu hs hm;go_enter func145,ntmps145;go_wp2;go_loopw [9] (fun a wr=>∃(k:Nat),a=.int .i64 k/\k<=m/\Hid (US wr q (iL s.I k C) L)/\Hid (Fr [q.U] w wr)) (fun a _=>m - (intOf a).toNat)
 case atStart=>exact⟨0,rfl,aH _,HU,hid (Fr.refl _ _)⟩
 case round =>
  obtain⟨k,rfl,hk,HP,HF⟩:=hrel;by_cases hlt:k<m
  ·obtain⟨hi,p1,p2,p3,p4⟩:=Fo HP.out HS.out HF.out (show k<s.I.length by rw[<-HM.out];exact hlt)
   have qp:=hid (fun z=>HP.out.oX hi z);have HST:=hid (show iL s.I (k+1) C=jY s.I (iL s.I k C) k from rfl);have mo:=hid (ug s.I (iL s.I k C) k);rw[<-HST.out]at mo;generalize rN:iL s.I (k+1) C=N2 at *;have lQ:=hid rN;clear rN HST p4;generalize iL s.I k C=N at *;dsimp only[cl,put]at *;generalize fX s.I k=i at *;generalize nth N i=y at *;by_cases hy:y=4\/y=5\/y=7
   ·have HN:=hid (mo.out.1 hy)
    rcases hy with rfl | rfl | rfl
    all_goals (
     go_wp2
     go_roundw
     case rel=>exact⟨k+1,by go_num,by omega,hid (by rw[lQ.out,HN.out];exact qp.out 13),hid (HF.out.set (aj.2 rfl) _)⟩
     case measure=>simp[intOf];omega)
   ·have HN:=hid (mo.out.2 hy)
    have y4:¬y=4:=fun h=>hy (.inl h)
    have y5:¬y=5:=fun h=>hy (.inr (.inl h))
    have y7:¬y=7:=fun h=>hy (.inr (.inr h))
    clear hy;go_wp2;go_roundw
    case rel=>exact⟨k+1,by go_num,by omega,hid (by rw[lQ.out,HN.out];exact HP.out),HF⟩
    case measure=>simp[intOf];omega
  ·have hk2:k=m:=by omega
   have tH:=hid (show US wr q (iL s.I m C) L by rw[<-hk2];exact HP.out);clear hk2;go_wp2;go_end0;exact⟨rfl,tH.out,HF.out⟩
theorem L_ (I:List Nat)(letter v:Int)(x:Int)(C:List Int)(k:Nat) :
 (cl I C k=0\/cl I C k=1\/cl I C k=2->iW I true letter v (x,C) k=(cl I C k,C)) /\
 (cl I C k=3->x=letter->iW I true letter v (x,C) k=(x,put I C k v)) /\
 (cl I C k=3->¬x=letter->iW I true letter v (x,C) k=(x,C)) /\
 (¬(cl I C k=0\/cl I C k=1\/cl I C k=2)->¬cl I C k=3->iW I true letter v (x,C) k=(x,C)):=by
 refine⟨fun h=>?_,fun h h1=>?_,fun h h1=>?_,fun h h1=>?_⟩
 ·rw[iW,ay (by rcases h with h | h | h;exact .inl h;exact .inr (.inl h);exact .inr (.inr ⟨rfl,h⟩))]
 ·rw[iW,au (by dsimp only;omega),ay ⟨h,h1⟩]
 ·rw[iW,au (by dsimp only;omega),au (fun h2=>h1 h2.2)]
 ·rw[iW,au (by rintro (h2 | h2 | h2);exact h (.inl h2);exact h (.inr (.inl h2));exact h (.inr (.inr h2.2))),au (fun h2=>h1 h2.1)]
theorem GI (q:UH)(C L:List Int)(S Q cQ:Nat)(s:Sq)(lv:Int)(letter v:Int)(w:World)(hu:US w q C L)(hs:SS w q S Q cQ s lv) :
 Calls prog 141 #[.pointer (some ⟨S,0,none⟩),.int .i64 letter,.int .i64 v] w fun e w'=>e=.returned (.tuple #[])/\US w' q (iw s.I true letter v s.I.length (s.iq,C)).2 L/\Fr [q.U] w w':=by
 have c0:=hs.c0;have c2:=hs.c2;have sm:=hs.sm;have HU:=hid hu;have HS:=hid hs;obtain⟨m,hm⟩:∃m,m=s.I.length:=⟨_,rfl⟩;have HM:=hid hm;rw[<-hm]at c0 sm ⊢;clear hu hs hm;go_enter func141,ntmps141;go_wp2;go_loopw [6,18] (fun x a wr=>∃(k:Nat),x=.int .i64 (iw s.I true letter v k (s.iq,C)).1/\a=.int .i64 k/\k<=m/\Hid (US wr q (iw s.I true letter v k (s.iq,C)).2 L)/\Hid (Fr [q.U] w wr)) (fun _ a _=>m - (intOf a).toNat)
 case atStart=>exact⟨0,rfl,rfl,aH _,HU,hid (Fr.refl _ _)⟩
 case round =>
  obtain⟨k,rfl,rfl,hk,HP,HF⟩:=hrel;by_cases hlt:k<m
  ·have HST:=hid (show iw s.I true letter v (k+1) (s.iq,C)=iW s.I true letter v (iw s.I true letter v k (s.iq,C)) k from rfl)
   generalize rN:iw s.I true letter v (k+1) (s.iq,C)=N2 at *;have lQ:=hid rN;clear rN;generalize iw s.I true letter v k (s.iq,C)=N at *;obtain⟨x,N⟩:=N;dsimp only at *;obtain⟨hi,p1,p2,p3,p4⟩:=Fo HP.out HS.out HF.out (show k<s.I.length by rw[<-HM.out];exact hlt);have qp:=hid (fun z=>HP.out.oX hi z);have mo:=hid (L_ s.I letter v x N k);rw[<-HST.out]at mo;clear HST p4;dsimp only[cl,put]at *;generalize fX s.I k=i at *;generalize nth N i=y at *;by_cases hy:y=0\/y=1\/y=2
   ·have HN:=hid (mo.out.1 hy)
    rcases hy with rfl | rfl | rfl
    all_goals (
     go_wp2
     go_roundw
     case rel=>exact⟨k+1,by rw[lQ.out,HN.out],by go_num,by omega,hid (by rw[lQ.out,HN.out];exact HP.out),HF⟩
     case measure=>simp[intOf];omega)
   ·have y0:¬y=0:=fun h=>hy (.inl h)
    have y1:¬y=1:=fun h=>hy (.inr (.inl h))
    have y2:¬y=2:=fun h=>hy (.inr (.inr h))
    by_cases h3:y=3
    ·by_cases hx:x=letter
     ·have HN:=hid (mo.out.2.1 h3 hx)
      subst h3;subst hx;clear hy;go_wp2;go_roundw
      case rel=>exact⟨k+1,by rw[lQ.out,HN.out],by go_num,by omega,hid (by rw[lQ.out,HN.out];exact qp.out v),hid (HF.out.set (aj.2 rfl) _)⟩
      case measure=>simp[intOf];omega
     ·have HN:=hid (mo.out.2.2.1 h3 hx)
      subst h3;clear hy;go_wp2;go_roundw
      case rel=>exact⟨k+1,by rw[lQ.out,HN.out],by go_num,by omega,hid (by rw[lQ.out,HN.out];exact HP.out),HF⟩
      case measure=>simp[intOf];omega
    ·have HN:=hid (mo.out.2.2.2 hy h3)
     clear hy;go_wp2;go_roundw
     case rel=>exact⟨k+1,by rw[lQ.out,HN.out],by go_num,by omega,hid (by rw[lQ.out,HN.out];exact HP.out),HF⟩
     case measure=>simp[intOf];omega
  ·have hk2:k=m:=by omega
   have tH:=hid (show US wr q (iw s.I true letter v m (s.iq,C)).2 L by rw[<-hk2];exact HP.out);clear hk2;go_wp2;go_end0;exact⟨rfl,tH.out,HF.out⟩
theorem GJ (q:UH)(C L:List Int)(S Q cQ:Nat)(s:Sq)(lv:Int)(a b:Nat)(v:Int)(w:World)(hu:US w q C L)(hs:SS w q S Q cQ s lv)(hab:a<b)(hb:b<=s.I.length) :
 Calls prog 157 #[.pointer (some ⟨S,0,none⟩),.int .i64 a,.int .i64 b,.int .i64 v] w fun e w'=>e=.returned (.tuple #[])/\US w' q (iE s.I a v (b - a) C) L/\Fr [q.U] w w':=by
 have c0:=hs.c0;have sm:=hs.sm;have cp:=hs.cp;have HU:=hid hu;have HS:=hid hs;obtain⟨m,hm⟩:∃m,m=s.I.length:=⟨_,rfl⟩;have HM:=hid hm;rw[<-hm]at c0 sm hb cp;have hI1:(a:Int)<=(b:Int):=by omega
 have hI2:(b:Int)<=(cQ:Int):=by omega
 have hI3:(b:Int)<=(m:Int):=by omega
 have hca:¬cQ=a:=by omega
 obtain⟨d,hd⟩:∃d,b - a=d:=⟨_,rfl⟩;rw[hd];have hdm:a+d<=m:=by omega
 clear hu hs hm;go_enter func157,ntmps157;go_wp2;clear hd hca;go_loopw [18] (fun x wr=>∃(k:Nat),x=.int .i64 k/\k<=d/\Hid (US wr q (iE s.I a v k C) L)/\Hid (Fr [q.U] w wr)) (fun x _=>d - (intOf x).toNat)
 case atStart=>exact⟨0,rfl,aH _,HU,hid (Fr.refl _ _)⟩
 case round =>
  obtain⟨k,rfl,hk,HP,HF⟩:=hrel;by_cases hlt:k<d
  ·obtain⟨hi,p1,p2,p3,p4⟩:=Fo HP.out HS.out HF.out (show a+k<s.I.length by rw[<-HM.out];omega)
   have qp:=hid (fun z=>HP.out.oX hi z);have HST:=hid (show iE s.I a v (k+1) C=put s.I (iE s.I a v k C) (a+k) v from rfl);generalize rN:iE s.I a v (k+1) C=N2 at *;have lQ:=hid rN;clear rN p4;generalize iE s.I a v k C=N at *;dsimp only[cl,put]at *;generalize fX s.I (a+k)=i at *;generalize nth N i=y at *;go_wp2;go_roundw
   case rel=>exact⟨k+1,by go_num,by omega,hid (by rw[lQ.out,HST.out];exact qp.out v),hid (HF.out.set (aj.2 rfl) _)⟩
   case measure=>simp[intOf];omega
  ·have hk2:k=d:=by omega
   have tH:=hid (show US wr q (iE s.I a v d C) L by rw[<-hk2];exact HP.out);clear hk2;go_wp2;go_end0;exact⟨rfl,tH.out,HF.out⟩
end Go.Proofs.YtnakejhohdbfdaaGreatDoor

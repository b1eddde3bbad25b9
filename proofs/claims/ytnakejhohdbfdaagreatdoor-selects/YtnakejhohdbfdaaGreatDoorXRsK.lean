import Derived.Test.YtnakejhohdbfdaaGreatDoorXMd
import Derived.Test.YtnakejhohdbfdaaGreatDoorXMa
namespace Go.Proofs.YtnakejhohdbfdaaGreatDoor
open Go.RowKit Lev
theorem owns_cap {w:World}{B g n cap size:Nat}{e:TypeId}{xs:List Value}(h:w.ownsRow B e size (.slice (some ⟨g,0,none⟩) n cap) n xs):n≤cap:=by
 rcases h.2 with⟨h0,_⟩ | ⟨g',cap',cur,hv,hg,hh,hn,_⟩
 ·cases h0
 ·cases hv;exact hn
def ecells:List Ent→List Value
 | []=>[]
 | x :: l=>.int .i64 x.lv :: .int .i64 x.ov :: .bool x.iso :: ecells l
theorem ecells_app:∀l m,ecells l++ecells m=ecells (l++m)
 | [],m=>rfl
 | p :: l,m=>by simp[ecells,ecells_app l m]
theorem ecells_take:∀l a,(ecells l).take (a * 3)=ecells (l.take a)
 | [],a=>by simp[ecells]
 | p :: l,0=>rfl
 | p :: l,a+1=>by rw[show(a+1) * 3=a * 3+1+1+1 by omega];simp[ecells,ecells_take l a]
theorem ecells_at:∀(l:List Ent) (i:Nat),i<l.length→(ecells l)[i * 3]?=some (.int .i64 ((l[i]?).getD default).lv)∧(ecells l)[i * 3+1]?=some (.int .i64 ((l[i]?).getD default).ov)∧(ecells l)[i * 3+2]?=some (.bool ((l[i]?).getD default).iso)
 | [],_,h=>absurd h (by simp)
 | p :: l,0,_=>by simp[ecells]
 | p :: l,i+1,h=>by
   have:=ecells_at l i (by simp at h;omega);rw[show(i+1) * 3=i * 3+1+1+1 by omega];simpa[ecells] using this
theorem ent_one (a b:Int)(c:Bool):∀u∈[Value.int .i64 a,.int .i64 b,.bool c],u.oneCell'=true:=by
 intro u hu;simp at hu
 rcases hu with rfl | rfl | rfl <;> rfl
theorem top_cells {w:World}{B g n cap m:Nat}{st:List Ent}(h:w.ownsRow B 149 3 (.slice (some ⟨g,0,none⟩) n cap) n (ecells st))(hn:n=st.length)(hm:n=m+1) :
 w.cell? ⟨g,m * 3,none⟩=some (.int .i64 (top st).lv)∧w.cell? ⟨g,m * 3+1,none⟩=some (.int .i64 (top st).ov)∧w.cell? ⟨g,m * 3+2,none⟩=some (.bool (top st).iso):=by
 obtain⟨a1,a2,a3⟩:=ecells_at st m (by omega);have ht:(st[m]?).getD default=top st:=by rw[top,←hn,hm];rfl
 rw[ht]at a1 a2 a3;exact⟨by rw[h.cellAt _ (by omega),a1],by rw[h.cellAt _ (by omega),a2],by rw[h.cellAt _ (by omega),a3]⟩
structure EW (W wr:World)(q:PH)(C L:List Int)(G:List Bool)(vst:Value)(st:List Ent):Prop where
 ps:PS wr q C L G
 fr:Fr [q.bC,q.bL,q.bG] W wr
 os:wr.ownsRow W.heap.size 149 3 vst st.length (ecells st)
theorem EW.fr0 {W wr w':World}{q:PH}{C L:List Int}{G:List Bool}{vst:Value}{st:List Ent}(h:EW W wr q C L G vst st)(hf:Fr [] wr w'):EW W w' q C L G vst st :=
 ⟨h.ps.fr0 hf,h.fr.trans (hf.mono (fun _ h _=>absurd h List.not_mem_nil)),owns_fr0 h.os hf⟩
theorem EW.ps' {W wr w':World}{q:PH}{C L C' L':List Int}{G G':List Bool}{vst:Value}{st:List Ent}(h:EW W wr q C L G vst st)(hW:q.bC<W.heap.size∧q.bL<W.heap.size∧q.bG<W.heap.size)(hf:Fr [q.bC,q.bL,q.bG] wr w')(hp:PS w' q C' L' G'):EW W w' q C' L' G' vst st :=
 ⟨hp,h.fr.trans hf,owns_frB h.os hf (fun k hk=>by simp at hk;rcases hk with h | h | h <;> omega)⟩
theorem EW.take {W wr:World}{q:PH}{C L:List Int}{G:List Bool}{g n cap m:Nat}{st:List Ent}(h:EW W wr q C L G (.slice (some ⟨g,0,none⟩) n cap) st)(hn:n=st.length)(hm:m≤n):EW W wr q C L G (.slice (some ⟨g,0,none⟩) m cap) (st.take m):=by
 refine⟨h.ps,h.fr,?_⟩;have ho:=h.os;rw[←hn]at ho;have:=ownsRow_take ho hm;rw[ecells_take]at this;rw[List.length_take,←hn,Nat.min_eq_left hm];exact this
theorem EW.push {W wr w1 w':World}{q:PH}{C L:List Int}{G:List Bool}{vst v':Value}{st:List Ent}{x:Ent}{n:Nat}(h:EW W wr q C L G vst st)(hn:n=st.length)(hf:Fr [] wr w1)(ho:w'.ownsRow W.heap.size 149 3 v' (n+1) (ecells st++[.int .i64 x.lv,.int .i64 x.ov,.bool x.iso]))(hg:w1.grownBy w' vst.ownBlock)
 (hW:q.p<W.heap.size∧q.bR<W.heap.size∧q.bF<W.heap.size∧q.bM<W.heap.size∧q.bC<W.heap.size∧q.bL<W.heap.size∧q.bG<W.heap.size):EW W w' q C L G v' (st++[x]):=by
 have h1:=h.fr0 hf;refine⟨?_,?_,?_⟩
 ·rcases hv:vst.ownBlock with _ | g
  ·rw[hv]at hg
   exact h1.ps.fr0 (Fr.of_grown_none hg)
  ·rw[hv]at hg
   have hge:=(h1.os.lt g hv).1;exact h1.ps.fr (Fr.of_grown hg) (by simp;omega)
 ·exact h1.fr.grown hg (fun x hx=>(h1.os.lt x hx).1)
 ·rw[List.length_append,←ecells_app,←hn];exact ho
theorem EW.at {W wr w':World}{q:PH}{e:Emb}{G:List Bool}{vst:Value}{st:List Ent}{i:Nat}{lv ov:Int}{iso:Bool}(h:EW W wr q e.C e.L G vst st)(hT:⟨lv,ov,iso⟩=top e.st)(hk:EntOk (top e.st))(hW:q.p<W.heap.size∧q.bR<W.heap.size∧q.bF<W.heap.size∧q.bM<W.heap.size∧q.bC<W.heap.size∧q.bL<W.heap.size∧q.bG<W.heap.size)
 (hp:PS w' q (if 0≤ov then e.C.set i ov else e.C) (e.L.set i lv) G) (hf:Fr [q.bC,q.bL] wr w'):EW W w' q (hold e i).C (hold e i).L G vst st:=by
 refine h.ps' ⟨hW.2.2.2.2.1,hW.2.2.2.2.2.1,hW.2.2.2.2.2.2⟩ (hf.mono (fun k hk _=>by simp at hk ⊢;omega)) ?_;rw[hold_C' hk,hold_L,←hT];exact hp
theorem EW.gone {W wr:World}{q:PH}{C L:List Int}{G:List Bool}{vst:Value}{st:List Ent}{i:Nat}(h:EW W wr q C L G vst st)(hW:q.p<W.heap.size∧q.bR<W.heap.size∧q.bF<W.heap.size∧q.bM<W.heap.size∧q.bC<W.heap.size∧q.bL<W.heap.size∧q.bG<W.heap.size)(hi:i<q.n):EW W (wr.setCell ⟨q.bG,i,none⟩ (.bool true)) q C L (G.set i true) vst st :=
 h.ps' ⟨hW.2.2.2.2.1,hW.2.2.2.2.2.1,hW.2.2.2.2.2.2⟩ ((Fr.refl _ _).set (by simp) _) (h.ps.setG hi true)
def slLen:Value→Nat
 | .slice _ n _=>n
 | _=>0
def entAt (w:World)(b:Nat)(x:Ent):Prop:=w.cell? ⟨b,0,none⟩=some (.int .i64 x.lv)∧w.cell? ⟨b,1,none⟩=some (.int .i64 x.ov)∧w.cell? ⟨b,2,none⟩=some (.bool x.iso)
theorem entAt.fr {S:List Nat}{w w':World}{b:Nat}{x:Ent}(h:entAt w b x)(hf:Fr S w w')(hb:b ∉ S):entAt w' b x:=⟨hf.cell h.1 hb,hf.cell h.2.1 hb,hf.cell h.2.2 hb⟩
set_option linter.unusedSimpArgs false in
set_option maxRecDepth 10000 in
set_option maxHeartbeats 16000000 in
theorem ref13_any (q:PH)(w:World)(hK:q.K.length=q.n)(hn:q.n≤1000000)(hn0:0<q.n)(hb:q.base=0∨q.base=1)
 (hM:∀i,i<q.n→nth q.M i=if ini (nth q.K i)then mateI (mate q.K i)else -1)
 (hs:PS w q q.K (List.replicate q.K.length 0) (gAt q.K 0)) :
 Calls Tryz.prog 44 #[.pointer (some ⟨q.p,0,none⟩)] w fun e w'=>e=.returned (.tuple #[])∧PS w' q (embTo q.K q.base q.K.length).C (embTo q.K q.base q.K.length).L (gAt q.K q.K.length)∧Fr [q.bC,q.bL,q.bG] w w':=by
 obtain⟨i0,hi,hz0,hz1,hz2⟩:=info_parts info138;have hlp:=hs.lt;have HBL:=hid (show q.p<w.heap.size∧q.bR<w.heap.size∧q.bF<w.heap.size∧q.bM<w.heap.size∧q.bC<w.heap.size∧q.bL<w.heap.size∧q.bG<w.heap.size from⟨hs.lt,hs.ltR hn0,hs.ltF hn0,hs.ltM hn0,hs.ltC hn0,hs.ltL hn0,hs.ltG hn0⟩);have c6:=hs.c6;have HS:=hid hs;have HM:=hid hM;have HK:=hid hK;have HBB:=hid hb;obtain⟨Z,hZ⟩:∃Z,Z=embTo q.K q.base q.K.length:=⟨_,rfl⟩;obtain⟨ZG,hZG⟩:∃ZG,ZG=gAt q.K q.K.length:=⟨_,rfl⟩;rw[←hZ,←hZG];have HZ:=hid hZ;have HZG:=hid hZG;clear hs hM hK hb hZ hZG;go_enter Tryz.func44,Tryz.ntmps44;go_wp2;go_loopw [2,3,4,5,6] (fun vst mi me op ii wr=>∃(i:Nat),ii=.int .i64 i∧i≤q.n∧mi=.int .i64 ((embTo q.K q.base i).mi:Nat)∧me=.int .i64 ((embTo q.K q.base i).me:Nat)∧op=.int .i64 ((embTo q.K q.base i).op:Nat)∧Hid (EW w wr q (embTo q.K q.base i).C (embTo q.K q.base i).L (gAt q.K i) vst (embTo q.K q.base i).st)) (fun _ _ _ _ ii _=>q.n - (intOf ii).toNat)
 case atStart =>
  refine⟨0,rfl,Nat.zero_le _,rfl,rfl,rfl,hid ⟨HS.out.alloc _,(Fr.refl _ w).alloc _,?_⟩⟩;exact World.ownsRow_lit (base:=w.heap.size) (e:=149) (size:=3) w #[.int .i64 q.base,.int .i64 (-1),.bool false] 1 (Nat.le_refl _) (by decide) rfl
 case round =>
  obtain⟨i,rfl,hin,rfl,rfl,rfl,HE⟩:=hrel;have d2:=HE.out.ps.c2;by_cases hlt:i<q.n
  ·have HINV:=hid (emb_inv q.K q.base HBB.out i (by rw[HK.out];exact hin))
   have HNX:=hid (show embTo q.K q.base (i+1)=embStep q.K q.base i (embTo q.K q.base i)from rfl);have HGX:=hid (show gAt q.K (i+1)=if gone (nth q.K i)then(gAt q.K i).set i true else gAt q.K i from rfl);have hz:=HINV.out.sz;have HT:=hid (top_ok HINV.out.st);have hpos:=st_pos HINV.out.st;have hiso:=HINV.out.op;obtain⟨c,hc⟩:∃c,c=nth q.K i:=⟨_,rfl⟩;obtain⟨odd,hodd⟩:∃b,b=oddOf q.K i:=⟨_,rfl⟩;obtain⟨nx,hnx⟩:∃x,x=nextOf (top (embTo q.K q.base i).st).lv odd:=⟨_,rfl⟩;obtain⟨F,hF⟩:∃F,F=fits (embTo q.K q.base i) nx:=⟨_,rfl⟩;have HNXX:=hid (show nx=nextOf (top (embTo q.K q.base i).st).lv (oddOf q.K i) by rw[hnx,hodd]);rw[←hc]at HGX;generalize embTo q.K q.base i=e at *;generalize gAt q.K i=G at *;obtain⟨st,mi,me,op,C,L⟩:=e;dsimp only at *;obtain⟨n,hn⟩:∃n,n=st.length:=⟨_,rfl⟩;obtain⟨m,hm⟩:∃m,n=m+1:=⟨n - 1,by omega⟩;have hos:=HE.out.os;rw[←hn]at hos;have HOS:=hid hos;clear hos;obtain⟨g,cap,hv⟩:=owns_shape (by omega) HOS.out;subst hv;obtain⟨t0,t1,t2⟩:=top_cells HOS.out hn hm;have HN:=hid hn;have HMM:=hid hm;have hnm:(n:Int) - 1=(m:Int):=by omega
   have hmn:(m:Int)<(n:Int):=by omega
   have e1:=HE.out.ps.rF i hlt;have d1:=HE.out.ps.c1;have HTT:=hid (show EntOk (top st)from HT.out);obtain⟨T,hT⟩:∃T,T=top st:=⟨_,rfl⟩;have hlv:=HTT.out.1;have hlv9:=HTT.out.2.1;have hov:=HTT.out.2.2;rw[←hT]at t0 t1 t2 hnx hlv hlv9 hov;rw[←hc]at e1;have HTQ:=hid hT;have HC:=hid hc;have HODD:=hid hodd;have HNXT:=hid hnx;have HF:=hid hF;have hsz:=HE.out.fr.size;have hopn:op≤i:=by have h1:=HINV.out.cnt;dsimp only at h1;have h2:=openAt_len q.K i;omega
   have HISO:=hid (show op=isoN st.reverse from hiso);have HSTO:=hid (show StOk st.reverse from HINV.out.st);have hszm:=hz.1;have hszi:=hz.2.1;have hsze:=hz.2.2;rw[←hn]at hszm;clear hc hodd hnx hF hn hm hz hiso hpos hT HT HINV;obtain⟨lv,ov,iso⟩:=T;dsimp only at t0 t1 t2 hlv hlv9 hov;go_upto_region 9 with fail
   have HE1:=hid (HE.out.fr0 ((Fr.refl [] wr).alloc (.cells #[.int .i64 lv,.int .i64 ov,.bool iso] 149)));have HB1:=hid (show entAt (wr.alloc (.cells #[.int .i64 lv,.int .i64 ov,.bool iso] 149)) wr.heap.size ⟨lv,ov,iso⟩from⟨by rw[World.cell?_alloc_at _ _ _ _ rfl];rfl,by rw[World.cell?_alloc_at _ _ _ _ rfl];rfl,by rw[World.cell?_alloc_at _ _ _ _ rfl];rfl⟩);go_cut [9]from 21 to 21 (fun a wx=>a=.bool (c == 16 || c == 17 || c == 20)∧Hid (EW w wx q C L G (.slice (some ⟨g,0,none⟩) n cap) st)∧Hid (entAt wx wr.heap.size ⟨lv,ov,iso⟩))
   case first =>
    as_aux_lemma =>
     by_cases h16:c=16
     ·subst h16
      go_wp2;go_meet
      case rel=>exact⟨rfl,HE1,HB1⟩
     ·by_cases h17:c=17
      ·subst h17
       go_wp2;go_meet
       case rel=>exact⟨rfl,HE1,HB1⟩
      ·by_cases h20:c=20
       ·subst h20
        go_wp2;go_meet
        case rel=>exact⟨rfl,HE1,HB1⟩
       ·go_wp2
        go_meet
        case rel=>exact⟨by simp[h16,h17,h20],HE1,HB1⟩
   case rest =>
    obtain⟨rfl,HE2,HB2⟩:=hcut;clear HE1 HB1 t0 t1 t2 e1 d1 d2;go_upto_if 54 with fail
    go_cut [9]from 53 to 54 (fun a wx=>a=.bool odd∧Hid (EW w wx q C L G (.slice (some ⟨g,0,none⟩) n cap) st)∧Hid (entAt wx wr.heap.size ⟨lv,ov,iso⟩))
    case first =>
     as_aux_lemma =>
      by_cases h21:c=21
      ·subst h21
       have d1:=HE2.out.ps.c1;have d2:=HE2.out.ps.c2;have d4:=HE2.out.ps.c4;have e4:=HE2.out.ps.rM i hlt;rw[HM.out i hlt,←HC.out,if_pos (by decide)]at e4;have HOD:=hid (show odd=strong q.K (i+1) ((mate q.K i).getD q.K.length) by rw[HODD.out,oddOf,if_pos HC.out.symm]);cases hmt:mate q.K i with
       | none =>
         rw[hmt]at e4 HOD
         have HCC:Hid (Calls Tryz.prog 43 #[.slice (some ⟨q.bF,0,none⟩) q.n q.cF,.int .i64 ((i:Int)+1),.int .i64 q.n] wc fun e w'=>e=.returned (.bool odd)∧w'=wc):=hid (by
          have:=ref12_any q.bF q.n q.cF q.K (i+1) q.n wc HK.out hn (Nat.le_refl _) (by omega) HE2.out.ps.rF
          rw[Int.natCast_add]at this
          rw[HOD.out,Option.getD_none,HK.out]
          exact this)
         dsimp only[mateI]at e4;clear hmt HOD;go_wp2_with (first | (go_at_call 43;refine HCC.out.mono ?_;rintro e' w' ⟨rfl,rfl⟩));go_meet
         case rel=>exact⟨rfl,HE2,HB2⟩
       | some mt =>
         rw[hmt]at e4 HOD;have hmlt:=mate_lt _ _ _ hmt
         have HCC:Hid (Calls Tryz.prog 43 #[.slice (some ⟨q.bF,0,none⟩) q.n q.cF,.int .i64 ((i:Int)+1),.int .i64 mt] wc fun e w'=>e=.returned (.bool odd)∧w'=wc):=hid (by
          have:=ref12_any q.bF q.n q.cF q.K (i+1) mt wc HK.out hn (by rw[←HK.out];omega) (by omega) HE2.out.ps.rF
          rw[Int.natCast_add]at this
          rw[HOD.out,Option.getD_some]
          exact this)
         dsimp only[mateI]at e4;clear hmt HOD;go_wp2_with (first | (go_at_call 43;refine HCC.out.mono ?_;rintro e' w' ⟨rfl,rfl⟩));go_meet
         case rel=>exact⟨rfl,HE2,HB2⟩
      ·have h21b:(c == 21)=false:=by simp[h21]
       have HOD:=hid (show odd=(c == 16 || c == 17 || c == 20) by rw[HODD.out,oddOf,if_neg (by rw[←HC.out];exact h21),←HC.out]);go_wp2;go_meet
       case rel=>exact⟨by rw[HOD.out],HE2,HB2⟩
    case rest =>
     obtain⟨rfl,HE3,HB3⟩:=hcut;clear HE2 HB2;have b0:=HB3.out.1;dsimp only at b0;go_upto_if 84 with fail
     go_cut [11]from 21 to 21 (fun a wx=>a=.int .i64 nx∧Hid (EW w wx q C L G (.slice (some ⟨g,0,none⟩) n cap) st)∧Hid (entAt wx wr.heap.size ⟨lv,ov,iso⟩))
     case first =>
      as_aux_lemma =>
       have hnf:(odd=true→((lv+1) % 2=1→nx=lv+1)∧(¬(lv+1) % 2=1→nx=lv+2))∧(odd=false→((lv+1) % 2=1→nx=lv+2)∧(¬(lv+1) % 2=1→nx=lv+1)):=by
        rw[HNXT.out];refine⟨fun h=>⟨fun h1=>?_,fun h1=>?_⟩,fun h=>⟨fun h1=>?_,fun h1=>?_⟩⟩ <;> (dsimp only[nextOf];subst h;simp[h1])
       cases odd
       ·have hnf2:=hnf.2 rfl
        clear hnf HNXT HODD HNXX b0;go_wp2
        all_goals go_meet
        all_goals exact⟨by congr 1;first | omega | (simp at *;omega),HE3,HB3⟩
       ·have hnf2:=hnf.1 rfl
        clear hnf HNXT HODD HNXX b0;go_wp2
        all_goals go_meet
        all_goals exact⟨by congr 1;first | omega | (simp at *;omega),HE3,HB3⟩
     case rest =>
      obtain⟨rfl,HE4,HB4⟩:=hcut;clear HE3 HB3 b0;have hnx9:lv+1≤nx∧nx≤lv+2:=by have:=next_le lv odd;rw[←HNXT.out]at this;omega
      go_upto_region 18 with fail
      go_cut [12]from 21 to 21 (fun a wx=>a=.bool F∧Hid (EW w wx q C L G (.slice (some ⟨g,0,none⟩) n cap) st)∧Hid (entAt wx wr.heap.size ⟨lv,ov,iso⟩))
      case first =>
       as_aux_lemma =>
        have HFF:=hid (show F=(decide (nx≤9) && mi == 0 && me == 0)from HF.out);by_cases h9:nx≤9
        ·have h9b:decide (nx≤9)=true:=decide_eq_true h9
         by_cases hmi:mi=0
         ·subst hmi
          by_cases hme:me=0
          ·subst hme
           go_wp2;go_meet
           case rel=>exact⟨by rw[HFF.out,h9b];rfl,HE4,HB4⟩
          ·have hmb:((me:Int) == 0)=false:=by simp;omega
           have hmi':¬(me:Int)=0:=by omega
           go_wp2;go_meet
           case rel=>exact⟨by rw[HFF.out,h9b];simp[hme],HE4,HB4⟩
         ·have hmb:((mi:Int) == 0)=false:=by simp;omega
          have hmi':¬(mi:Int)=0:=by omega
          go_wp2;go_meet
          case rel=>exact⟨by rw[HFF.out,h9b];simp[hmi],HE4,HB4⟩
        ·have h9b:decide (nx≤9)=false:=decide_eq_false h9
         go_wp2;go_meet
         case rel=>exact⟨by rw[HFF.out,h9b];rfl,HE4,HB4⟩
      case rest =>
       obtain⟨rfl,HE5,HB5⟩:=hcut;clear HE4 HB4;obtain⟨b0,b1,b2⟩:=HB5.out;dsimp only at b0 b1 b2;have hsz5:=HE5.out.fr.size;have hos5:=HE5.out.os;rw[←HN.out]at hos5;have HOS5:=hid hos5;clear hos5;have hcl:c=16∨c=14∨c=17∨c=15∨c=19∨c=20∨c=21∨c=22∨c=18∨c=10∨c=9∨(begins c=false∧ini c=false∧c≠22∧c≠18∧c≠10∧c≠9):=by
        simp only[begins,ini,Bool.or_eq_false_iff,beq_eq_false_iff_ne];omega
       rcases hcl with h | h | h | h | h | h | h | h | h | h | h | h
       ·skip
        as_aux_lemma =>
         subst h;have HI29:Hid (∀w,Calls Tryz.prog 41 #[.int .i64 16] w fun e w'=>e=.returned (.bool false)∧w'=w):=hid (fun w=>ref10_any 16 w);have HBG:=hid (emb_begin (base:=q.base) (e:=⟨st,mi,me,op,C,L⟩) HC.out.symm (by decide) HNXX.out);rw[←HNX.out]at HBG;have HG2:=hid (show gAt q.K (i+1)=G.set i true from HGX.out);have d5:=HE5.out.ps.c5;have e6:=HE5.out.ps.rG i hlt;have e7:=HE5.out.ps.sG i hlt;have nG:=HE5.out.ps.neG.1;have HEG:=hid (HE5.out.gone HBL.out hlt);cases F
         ·by_cases hmi:mi=0
          ·subst hmi
           have HNN:=hid (HBG.out.2.1 HF.out.symm rfl);go_wp2_with (first | (go_at_call 41;refine(HI29.out _).mono ?_;rintro e' w' ⟨rfl,rfl⟩));go_roundw
           case rel=>exact⟨i+1,by go_num,by omega,by rw[HNN.out] <;> first | rfl | go_num,by rw[HNN.out] <;> first | rfl | go_num,by rw[HNN.out] <;> first | rfl | go_num,hid (by rw[HNN.out,HG2.out];exact HEG.out)⟩
           case measure=>simp[intOf];omega
          ·have hmb:((mi:Int) == 0)=false:=by simp;omega
           have hmi':¬(mi:Int)=0:=by omega
           have HNN:=hid (HBG.out.2.2 HF.out.symm hmi);go_wp2_with (first | (go_at_call 41;refine(HI29.out _).mono ?_;rintro e' w' ⟨rfl,rfl⟩));go_roundw
           case rel=>exact⟨i+1,by go_num,by omega,by rw[HNN.out] <;> first | rfl | go_num,by rw[HNN.out] <;> first | rfl | go_num,by rw[HNN.out] <;> first | rfl | go_num,hid (by rw[HNN.out,HG2.out];exact HEG.out)⟩
           case measure=>simp[intOf];omega
         ·have HNN:=hid (HBG.out.1 HF.out.symm)
          have hosg:=HEG.out.os;rw[←HN.out]at hosg;have HOSG:=hid hosg;clear hosg;go_wp2_with (first | (go_at_call 41;refine(HI29.out _).mono ?_;rintro e' w' ⟨rfl,rfl⟩) | (at_builtin;refine wpList_append_own _ rfl _ _ 150 rfl w.heap.size 149 i0 _ 3 24 Tryz.underlying150 hi hz0 hz1 hz2 rfl (by decide) _ n (ecells st) rfl ?own _ 1 1 [.int .i64 nx,.int .i64 (-1),.bool false] rfl rfl (news_at _ _ _ _ (by simp)) (ent_one _ _ _) (by unfold maxLen;omega) (by omega) ?szz ?_))
          case own=>exact owns_fr0 HOSG.out ((Fr.refl [] _).alloc _)
          case szz=>simp;omega
          intro v' w3 own3 hgrow hnil;have HP3:=hid (HEG.out.push (x:=⟨nx,-1,false⟩) HN.out ((Fr.refl [] _).alloc _) own3 hgrow HBL.out);clear own3 hgrow hnil;go_wp2;go_roundw
          case rel=>exact⟨i+1,by go_num,by omega,by rw[HNN.out] <;> first | rfl | go_num,by rw[HNN.out] <;> first | rfl | go_num,by rw[HNN.out] <;> first | rfl | go_num,hid (by rw[HNN.out,HG2.out];exact HP3.out)⟩
          case measure=>simp[intOf];omega
       ·skip
        as_aux_lemma =>
         subst h;have HI29:Hid (∀w,Calls Tryz.prog 41 #[.int .i64 14] w fun e w'=>e=.returned (.bool false)∧w'=w):=hid (fun w=>ref10_any 14 w);have HBG:=hid (emb_begin (base:=q.base) (e:=⟨st,mi,me,op,C,L⟩) HC.out.symm (by decide) HNXX.out);rw[←HNX.out]at HBG;have HG2:=hid (show gAt q.K (i+1)=G.set i true from HGX.out);have d5:=HE5.out.ps.c5;have e6:=HE5.out.ps.rG i hlt;have e7:=HE5.out.ps.sG i hlt;have nG:=HE5.out.ps.neG.1;have HEG:=hid (HE5.out.gone HBL.out hlt);cases F
         ·by_cases hmi:mi=0
          ·subst hmi
           have HNN:=hid (HBG.out.2.1 HF.out.symm rfl);go_wp2_with (first | (go_at_call 41;refine(HI29.out _).mono ?_;rintro e' w' ⟨rfl,rfl⟩));go_roundw
           case rel=>exact⟨i+1,by go_num,by omega,by rw[HNN.out] <;> first | rfl | go_num,by rw[HNN.out] <;> first | rfl | go_num,by rw[HNN.out] <;> first | rfl | go_num,hid (by rw[HNN.out,HG2.out];exact HEG.out)⟩
           case measure=>simp[intOf];omega
          ·have hmb:((mi:Int) == 0)=false:=by simp;omega
           have hmi':¬(mi:Int)=0:=by omega
           have HNN:=hid (HBG.out.2.2 HF.out.symm hmi);go_wp2_with (first | (go_at_call 41;refine(HI29.out _).mono ?_;rintro e' w' ⟨rfl,rfl⟩));go_roundw
           case rel=>exact⟨i+1,by go_num,by omega,by rw[HNN.out] <;> first | rfl | go_num,by rw[HNN.out] <;> first | rfl | go_num,by rw[HNN.out] <;> first | rfl | go_num,hid (by rw[HNN.out,HG2.out];exact HEG.out)⟩
           case measure=>simp[intOf];omega
         ·have HNN:=hid (HBG.out.1 HF.out.symm)
          have hosg:=HEG.out.os;rw[←HN.out]at hosg;have HOSG:=hid hosg;clear hosg;go_wp2_with (first | (go_at_call 41;refine(HI29.out _).mono ?_;rintro e' w' ⟨rfl,rfl⟩) | (at_builtin;refine wpList_append_own _ rfl _ _ 150 rfl w.heap.size 149 i0 _ 3 24 Tryz.underlying150 hi hz0 hz1 hz2 rfl (by decide) _ n (ecells st) rfl ?own _ 1 1 [.int .i64 nx,.int .i64 (-1),.bool false] rfl rfl (news_at _ _ _ _ (by simp)) (ent_one _ _ _) (by unfold maxLen;omega) (by omega) ?szz ?_))
          case own=>exact owns_fr0 HOSG.out ((Fr.refl [] _).alloc _)
          case szz=>simp;omega
          intro v' w3 own3 hgrow hnil;have HP3:=hid (HEG.out.push (x:=⟨nx,-1,false⟩) HN.out ((Fr.refl [] _).alloc _) own3 hgrow HBL.out);clear own3 hgrow hnil;go_wp2;go_roundw
          case rel=>exact⟨i+1,by go_num,by omega,by rw[HNN.out] <;> first | rfl | go_num,by rw[HNN.out] <;> first | rfl | go_num,by rw[HNN.out] <;> first | rfl | go_num,hid (by rw[HNN.out,HG2.out];exact HP3.out)⟩
          case measure=>simp[intOf];omega
       ·skip
        as_aux_lemma =>
         subst h;have HI29:Hid (∀w,Calls Tryz.prog 41 #[.int .i64 17] w fun e w'=>e=.returned (.bool false)∧w'=w):=hid (fun w=>ref10_any 17 w);have HBG:=hid (emb_begin (base:=q.base) (e:=⟨st,mi,me,op,C,L⟩) HC.out.symm (by decide) HNXX.out);rw[←HNX.out]at HBG;have HG2:=hid (show gAt q.K (i+1)=G.set i true from HGX.out);have d5:=HE5.out.ps.c5;have e6:=HE5.out.ps.rG i hlt;have e7:=HE5.out.ps.sG i hlt;have nG:=HE5.out.ps.neG.1;have HEG:=hid (HE5.out.gone HBL.out hlt);cases F
         ·by_cases hmi:mi=0
          ·subst hmi
           have HNN:=hid (HBG.out.2.1 HF.out.symm rfl);go_wp2_with (first | (go_at_call 41;refine(HI29.out _).mono ?_;rintro e' w' ⟨rfl,rfl⟩));go_roundw
           case rel=>exact⟨i+1,by go_num,by omega,by rw[HNN.out] <;> first | rfl | go_num,by rw[HNN.out] <;> first | rfl | go_num,by rw[HNN.out] <;> first | rfl | go_num,hid (by rw[HNN.out,HG2.out];exact HEG.out)⟩
           case measure=>simp[intOf];omega
          ·have hmb:((mi:Int) == 0)=false:=by simp;omega
           have hmi':¬(mi:Int)=0:=by omega
           have HNN:=hid (HBG.out.2.2 HF.out.symm hmi);go_wp2_with (first | (go_at_call 41;refine(HI29.out _).mono ?_;rintro e' w' ⟨rfl,rfl⟩));go_roundw
           case rel=>exact⟨i+1,by go_num,by omega,by rw[HNN.out] <;> first | rfl | go_num,by rw[HNN.out] <;> first | rfl | go_num,by rw[HNN.out] <;> first | rfl | go_num,hid (by rw[HNN.out,HG2.out];exact HEG.out)⟩
           case measure=>simp[intOf];omega
         ·have HNN:=hid (HBG.out.1 HF.out.symm)
          have hosg:=HEG.out.os;rw[←HN.out]at hosg;have HOSG:=hid hosg;clear hosg;go_wp2_with (first | (go_at_call 41;refine(HI29.out _).mono ?_;rintro e' w' ⟨rfl,rfl⟩) | (at_builtin;refine wpList_append_own _ rfl _ _ 150 rfl w.heap.size 149 i0 _ 3 24 Tryz.underlying150 hi hz0 hz1 hz2 rfl (by decide) _ n (ecells st) rfl ?own _ 1 1 [.int .i64 nx,.int .i64 (1),.bool false] rfl rfl (news_at _ _ _ _ (by simp)) (ent_one _ _ _) (by unfold maxLen;omega) (by omega) ?szz ?_))
          case own=>exact owns_fr0 HOSG.out ((Fr.refl [] _).alloc _)
          case szz=>simp;omega
          intro v' w3 own3 hgrow hnil;have HP3:=hid (HEG.out.push (x:=⟨nx,1,false⟩) HN.out ((Fr.refl [] _).alloc _) own3 hgrow HBL.out);clear own3 hgrow hnil;go_wp2;go_roundw
          case rel=>exact⟨i+1,by go_num,by omega,by rw[HNN.out] <;> first | rfl | go_num,by rw[HNN.out] <;> first | rfl | go_num,by rw[HNN.out] <;> first | rfl | go_num,hid (by rw[HNN.out,HG2.out];exact HP3.out)⟩
          case measure=>simp[intOf];omega
       ·skip
        as_aux_lemma =>
         subst h;have HI29:Hid (∀w,Calls Tryz.prog 41 #[.int .i64 15] w fun e w'=>e=.returned (.bool false)∧w'=w):=hid (fun w=>ref10_any 15 w);have HBG:=hid (emb_begin (base:=q.base) (e:=⟨st,mi,me,op,C,L⟩) HC.out.symm (by decide) HNXX.out);rw[←HNX.out]at HBG;have HG2:=hid (show gAt q.K (i+1)=G.set i true from HGX.out);have d5:=HE5.out.ps.c5;have e6:=HE5.out.ps.rG i hlt;have e7:=HE5.out.ps.sG i hlt;have nG:=HE5.out.ps.neG.1;have HEG:=hid (HE5.out.gone HBL.out hlt);cases F
         ·by_cases hmi:mi=0
          ·subst hmi
           have HNN:=hid (HBG.out.2.1 HF.out.symm rfl);go_wp2_with (first | (go_at_call 41;refine(HI29.out _).mono ?_;rintro e' w' ⟨rfl,rfl⟩));go_roundw
           case rel=>exact⟨i+1,by go_num,by omega,by rw[HNN.out] <;> first | rfl | go_num,by rw[HNN.out] <;> first | rfl | go_num,by rw[HNN.out] <;> first | rfl | go_num,hid (by rw[HNN.out,HG2.out];exact HEG.out)⟩
           case measure=>simp[intOf];omega
          ·have hmb:((mi:Int) == 0)=false:=by simp;omega
           have hmi':¬(mi:Int)=0:=by omega
           have HNN:=hid (HBG.out.2.2 HF.out.symm hmi);go_wp2_with (first | (go_at_call 41;refine(HI29.out _).mono ?_;rintro e' w' ⟨rfl,rfl⟩));go_roundw
           case rel=>exact⟨i+1,by go_num,by omega,by rw[HNN.out] <;> first | rfl | go_num,by rw[HNN.out] <;> first | rfl | go_num,by rw[HNN.out] <;> first | rfl | go_num,hid (by rw[HNN.out,HG2.out];exact HEG.out)⟩
           case measure=>simp[intOf];omega
         ·have HNN:=hid (HBG.out.1 HF.out.symm)
          have hosg:=HEG.out.os;rw[←HN.out]at hosg;have HOSG:=hid hosg;clear hosg;go_wp2_with (first | (go_at_call 41;refine(HI29.out _).mono ?_;rintro e' w' ⟨rfl,rfl⟩) | (at_builtin;refine wpList_append_own _ rfl _ _ 150 rfl w.heap.size 149 i0 _ 3 24 Tryz.underlying150 hi hz0 hz1 hz2 rfl (by decide) _ n (ecells st) rfl ?own _ 1 1 [.int .i64 nx,.int .i64 (0),.bool false] rfl rfl (news_at _ _ _ _ (by simp)) (ent_one _ _ _) (by unfold maxLen;omega) (by omega) ?szz ?_))
          case own=>exact owns_fr0 HOSG.out ((Fr.refl [] _).alloc _)
          case szz=>simp;omega
          intro v' w3 own3 hgrow hnil;have HP3:=hid (HEG.out.push (x:=⟨nx,0,false⟩) HN.out ((Fr.refl [] _).alloc _) own3 hgrow HBL.out);clear own3 hgrow hnil;go_wp2;go_roundw
          case rel=>exact⟨i+1,by go_num,by omega,by rw[HNN.out] <;> first | rfl | go_num,by rw[HNN.out] <;> first | rfl | go_num,by rw[HNN.out] <;> first | rfl | go_num,hid (by rw[HNN.out,HG2.out];exact HP3.out)⟩
          case measure=>simp[intOf];omega
       ·skip
        as_aux_lemma =>
         subst h;have HI29:Hid (∀w,Calls Tryz.prog 41 #[.int .i64 19] w fun e w'=>e=.returned (.bool true)∧w'=w):=hid (fun w=>ref10_any 19 w);have HBG:=hid (emb_ini (base:=q.base) (e:=⟨st,mi,me,op,C,L⟩) HC.out.symm (by decide) HNXX.out);rw[←HNX.out]at HBG;have HG2:=hid (show gAt q.K (i+1)=G from HGX.out);cases F
         ·have HNN:=hid (HBG.out.2 HF.out.symm)
          go_wp2_with (first | (go_at_call 41;refine(HI29.out _).mono ?_;rintro e' w' ⟨rfl,rfl⟩) | (go_at_call 84;refine(ref32_any q C L G i lv ov iso _ ?_ hlt hn).mono ?_;exact HE5.out.ps;rintro e' w' ⟨rfl,hp,hf⟩));have HEA:=hid (HE5.out.at (e:=⟨st,mi,me,op,C,L⟩) HTQ.out HTT.out HBL.out hp hf);clear hp hf;go_wp2;go_roundw
          case rel=>exact⟨i+1,by go_num,by omega,by rw[HNN.out] <;> first | rfl | go_num,by rw[HNN.out] <;> first | rfl | go_num,by rw[HNN.out] <;> first | rfl | go_num,hid (by rw[HNN.out,HG2.out];exact HEA.out)⟩
          case measure=>simp[intOf];omega
         ·have HNN:=hid (HBG.out.1 HF.out.symm)
          go_wp2_with (first | (go_at_call 41;refine(HI29.out _).mono ?_;rintro e' w' ⟨rfl,rfl⟩) | (go_at_call 84;refine(ref32_any q C L G i lv ov iso _ ?_ hlt hn).mono ?_;exact HE5.out.ps;rintro e' w' ⟨rfl,hp,hf⟩;have HEA:=hid (HE5.out.at (e:=⟨st,mi,me,op,C,L⟩) HTQ.out HTT.out HBL.out hp hf);have hosa:=HEA.out.os;rw[←HN.out]at hosa;have HOSA:=hid hosa;have hsza:=HEA.out.fr.size;clear hp hf hosa) | (at_builtin;refine wpList_append_own _ rfl _ _ 150 rfl w.heap.size 149 i0 _ 3 24 Tryz.underlying150 hi hz0 hz1 hz2 rfl (by decide) _ n (ecells st) rfl ?own _ 1 1 [.int .i64 nx,.int .i64 (-1),.bool true] rfl rfl (news_at _ _ _ _ (by simp)) (ent_one _ _ _) (by unfold maxLen;omega) (by omega) ?szz ?_))
          case own=>exact owns_fr0 HOSA.out ((Fr.refl [] _).alloc _)
          case szz=>simp;omega
          intro v' w3 own3 hgrow hnil;have HP3:=hid (HEA.out.push (x:=⟨nx,-1,true⟩) HN.out ((Fr.refl [] _).alloc _) own3 hgrow HBL.out);clear own3 hgrow hnil;go_wp2;go_roundw
          case rel=>exact⟨i+1,by go_num,by omega,by rw[HNN.out] <;> first | rfl | go_num,by rw[HNN.out] <;> first | rfl | go_num,by rw[HNN.out] <;> first | rfl | go_num,hid (by rw[HNN.out,HG2.out];exact HP3.out)⟩
          case measure=>simp[intOf];omega
       ·skip
        as_aux_lemma =>
         subst h;have HI29:Hid (∀w,Calls Tryz.prog 41 #[.int .i64 20] w fun e w'=>e=.returned (.bool true)∧w'=w):=hid (fun w=>ref10_any 20 w);have HBG:=hid (emb_ini (base:=q.base) (e:=⟨st,mi,me,op,C,L⟩) HC.out.symm (by decide) HNXX.out);rw[←HNX.out]at HBG;have HG2:=hid (show gAt q.K (i+1)=G from HGX.out);cases F
         ·have HNN:=hid (HBG.out.2 HF.out.symm)
          go_wp2_with (first | (go_at_call 41;refine(HI29.out _).mono ?_;rintro e' w' ⟨rfl,rfl⟩) | (go_at_call 84;refine(ref32_any q C L G i lv ov iso _ ?_ hlt hn).mono ?_;exact HE5.out.ps;rintro e' w' ⟨rfl,hp,hf⟩));have HEA:=hid (HE5.out.at (e:=⟨st,mi,me,op,C,L⟩) HTQ.out HTT.out HBL.out hp hf);clear hp hf;go_wp2;go_roundw
          case rel=>exact⟨i+1,by go_num,by omega,by rw[HNN.out] <;> first | rfl | go_num,by rw[HNN.out] <;> first | rfl | go_num,by rw[HNN.out] <;> first | rfl | go_num,hid (by rw[HNN.out,HG2.out];exact HEA.out)⟩
          case measure=>simp[intOf];omega
         ·have HNN:=hid (HBG.out.1 HF.out.symm)
          go_wp2_with (first | (go_at_call 41;refine(HI29.out _).mono ?_;rintro e' w' ⟨rfl,rfl⟩) | (go_at_call 84;refine(ref32_any q C L G i lv ov iso _ ?_ hlt hn).mono ?_;exact HE5.out.ps;rintro e' w' ⟨rfl,hp,hf⟩;have HEA:=hid (HE5.out.at (e:=⟨st,mi,me,op,C,L⟩) HTQ.out HTT.out HBL.out hp hf);have hosa:=HEA.out.os;rw[←HN.out]at hosa;have HOSA:=hid hosa;have hsza:=HEA.out.fr.size;clear hp hf hosa) | (at_builtin;refine wpList_append_own _ rfl _ _ 150 rfl w.heap.size 149 i0 _ 3 24 Tryz.underlying150 hi hz0 hz1 hz2 rfl (by decide) _ n (ecells st) rfl ?own _ 1 1 [.int .i64 nx,.int .i64 (-1),.bool true] rfl rfl (news_at _ _ _ _ (by simp)) (ent_one _ _ _) (by unfold maxLen;omega) (by omega) ?szz ?_))
          case own=>exact owns_fr0 HOSA.out ((Fr.refl [] _).alloc _)
          case szz=>simp;omega
          intro v' w3 own3 hgrow hnil;have HP3:=hid (HEA.out.push (x:=⟨nx,-1,true⟩) HN.out ((Fr.refl [] _).alloc _) own3 hgrow HBL.out);clear own3 hgrow hnil;go_wp2;go_roundw
          case rel=>exact⟨i+1,by go_num,by omega,by rw[HNN.out] <;> first | rfl | go_num,by rw[HNN.out] <;> first | rfl | go_num,by rw[HNN.out] <;> first | rfl | go_num,hid (by rw[HNN.out,HG2.out];exact HP3.out)⟩
          case measure=>simp[intOf];omega
       ·skip
        as_aux_lemma =>
         subst h;have HI29:Hid (∀w,Calls Tryz.prog 41 #[.int .i64 21] w fun e w'=>e=.returned (.bool true)∧w'=w):=hid (fun w=>ref10_any 21 w);have HBG:=hid (emb_ini (base:=q.base) (e:=⟨st,mi,me,op,C,L⟩) HC.out.symm (by decide) HNXX.out);rw[←HNX.out]at HBG;have HG2:=hid (show gAt q.K (i+1)=G from HGX.out);cases F
         ·have HNN:=hid (HBG.out.2 HF.out.symm)
          go_wp2_with (first | (go_at_call 41;refine(HI29.out _).mono ?_;rintro e' w' ⟨rfl,rfl⟩) | (go_at_call 84;refine(ref32_any q C L G i lv ov iso _ ?_ hlt hn).mono ?_;exact HE5.out.ps;rintro e' w' ⟨rfl,hp,hf⟩));have HEA:=hid (HE5.out.at (e:=⟨st,mi,me,op,C,L⟩) HTQ.out HTT.out HBL.out hp hf);clear hp hf;go_wp2;go_roundw
          case rel=>exact⟨i+1,by go_num,by omega,by rw[HNN.out] <;> first | rfl | go_num,by rw[HNN.out] <;> first | rfl | go_num,by rw[HNN.out] <;> first | rfl | go_num,hid (by rw[HNN.out,HG2.out];exact HEA.out)⟩
          case measure=>simp[intOf];omega
         ·have HNN:=hid (HBG.out.1 HF.out.symm)
          go_wp2_with (first | (go_at_call 41;refine(HI29.out _).mono ?_;rintro e' w' ⟨rfl,rfl⟩) | (go_at_call 84;refine(ref32_any q C L G i lv ov iso _ ?_ hlt hn).mono ?_;exact HE5.out.ps;rintro e' w' ⟨rfl,hp,hf⟩;have HEA:=hid (HE5.out.at (e:=⟨st,mi,me,op,C,L⟩) HTQ.out HTT.out HBL.out hp hf);have hosa:=HEA.out.os;rw[←HN.out]at hosa;have HOSA:=hid hosa;have hsza:=HEA.out.fr.size;clear hp hf hosa) | (at_builtin;refine wpList_append_own _ rfl _ _ 150 rfl w.heap.size 149 i0 _ 3 24 Tryz.underlying150 hi hz0 hz1 hz2 rfl (by decide) _ n (ecells st) rfl ?own _ 1 1 [.int .i64 nx,.int .i64 (-1),.bool true] rfl rfl (news_at _ _ _ _ (by simp)) (ent_one _ _ _) (by unfold maxLen;omega) (by omega) ?szz ?_))
          case own=>exact owns_fr0 HOSA.out ((Fr.refl [] _).alloc _)
          case szz=>simp;omega
          intro v' w3 own3 hgrow hnil;have HP3:=hid (HEA.out.push (x:=⟨nx,-1,true⟩) HN.out ((Fr.refl [] _).alloc _) own3 hgrow HBL.out);clear own3 hgrow hnil;go_wp2;go_roundw
          case rel=>exact⟨i+1,by go_num,by omega,by rw[HNN.out] <;> first | rfl | go_num,by rw[HNN.out] <;> first | rfl | go_num,by rw[HNN.out] <;> first | rfl | go_num,hid (by rw[HNN.out,HG2.out];exact HP3.out)⟩
          case measure=>simp[intOf];omega
       ·skip
        as_aux_lemma =>
         subst h;have HI29:Hid (∀w,Calls Tryz.prog 41 #[.int .i64 22] w fun e w'=>e=.returned (.bool false)∧w'=w):=hid (fun w=>ref10_any 22 w);have HG2:=hid (show gAt q.K (i+1)=G from HGX.out);have HPI:=hid (emb_pdi (base:=q.base) (e:=⟨st,mi,me,op,C,L⟩) HC.out.symm);rw[←HNX.out]at HPI;obtain⟨t0,t1,t2⟩:=top_cells HOS5.out HN.out HMM.out;rw[←HTQ.out]at t0 t1 t2;dsimp only at t0 t1 t2;by_cases hmi:mi=0
         ·subst hmi
          by_cases hop:op=0
          ·subst hop
           have HNN:=hid (HPI.out.2.2 rfl rfl);go_wp2_with (first | (go_at_call 41;refine(HI29.out _).mono ?_;rintro e' w' ⟨rfl,rfl⟩) | (go_at_call 84;refine(ref32_any q C L G i lv ov iso _ ?_ hlt hn).mono ?_;exact HE5.out.ps;rintro e' w' ⟨rfl,hp,hf⟩));have HEA:=hid (HE5.out.at (e:=⟨st,0,me,0,C,L⟩) HTQ.out HTT.out HBL.out hp hf);clear hp hf;go_wp2;go_roundw
           case rel=>exact⟨i+1,by go_num,by omega,by rw[HNN.out] <;> first | rfl | go_num,by rw[HNN.out] <;> first | rfl | go_num,by rw[HNN.out] <;> first | rfl | go_num,hid (by rw[HNN.out,HG2.out];exact HEA.out)⟩
           case measure=>simp[intOf];omega
          ·have hopI:(0:Int)<(op:Int):=by omega
           have hopc:(op:Int) - 1=((op - 1:Nat):Int):=by omega
           have HNN:=hid (HPI.out.2.1 rfl (by dsimp only;omega));clear t0 t1 t2;go_wp2_with (first | (go_at_call 41;refine(HI29.out _).mono ?_;rintro e' w' ⟨rfl,rfl⟩))
           as_aux_lemma =>
                   go_loopw [2] (fun vs wx=>∃(t:Nat),vs=.slice (some ⟨g,0,none⟩) t cap∧t≤n∧Hid (popI (st.take t).length (st.take t)=popI st.length st)∧Hid (0<isoN (st.take t).reverse)∧Hid (EW w wx q C L G (.slice (some ⟨g,0,none⟩) t cap) (st.take t))) (fun vs _=>slLen vs)
                   case atStart =>
                    refine⟨n,rfl,Nat.le_refl _,hid ?_,hid ?_,hid ?_⟩
                    ·rw[HN.out,List.take_length]
                    ·rw[HN.out,List.take_length,←HISO.out];omega
                    ·have h:=HE5.out
                     rw[HN.out,List.take_length,←HN.out];exact h
                   case round =>
                    obtain⟨t,rfl,htn,HPOP,HIS,HEX⟩:=hrel;have htl:(st.take t).length=t:=by rw[List.length_take,←HN.out];omega
                    have ht0:0<t:=by have:=iso_pos HIS.out;omega
                    obtain⟨m',hm'⟩:∃m',t=m'+1:=⟨t - 1,by omega⟩;have hosx:=HEX.out.os;rw[htl]at hosx;have HOSX:=hid hosx;have hcapx:=owns_cap hosx;obtain⟨s0,s1,s2⟩:=top_cells hosx htl.symm hm';have HPS2:=hid (pop_step (htl.trans hm'));have hm2:(t:Int) - 1=(m':Int):=by omega
                    have hm3:(m':Int)<(t:Int):=by omega
                    have hm4:(m':Int)≤(cap:Int):=by omega
                    have HTT2:=hid (show(st.take t).take m'=st.take m' by rw[List.take_take,Nat.min_eq_left (by omega)]);have HEM:=hid (HEX.out.take htl.symm (show m'≤t by omega));rw[HTT2.out]at HEM HPS2;have HIT:=hid (fun h=>iso_take (htl.trans hm') h HIS.out);rw[HTT2.out]at HIT;have HML:=hid hm';have HTL:=hid htl;clear hosx htl hm' s0 s1;cases hiso2:(top (st.take t)).iso
                    ·rw[hiso2]at s2
                     have HPQ:=hid ((HPS2.out.2 hiso2).symm.trans HPOP.out);have HIQ:=hid (HIT.out hiso2);clear hiso2 HPS2 HIT;go_wp2;go_roundw
                     case rel=>exact⟨m',rfl,by omega,HPQ,HIQ,HEM⟩
                     case measure=>simp[slLen];omega
                    ·rw[hiso2]at s2
                     have HPQ:=hid (show popI st.length st=st.take m' by rw[←HPOP.out];exact HPS2.out.1 hiso2);have HSK:=hid (show StOk (st.take m').reverse by rw[←HPQ.out];exact pop_pos HSTO.out (by rw[←HISO.out];omega));have hml:(st.take m').length=m':=by rw[List.length_take,←HN.out];omega
                     have hmp:=st_pos HSK.out;rw[hml]at hmp;obtain⟨m2,hm2'⟩:∃m2,m'=m2+1:=⟨m' - 1,by omega⟩;have hosm:=HEM.out.os;rw[hml]at hosm;obtain⟨r0,r1,r2⟩:=top_cells hosm hml.symm hm2';have HTK:=hid (top_ok' HSK.out);obtain⟨T2,hT2⟩:∃T2,T2=top (st.take m'):=⟨_,rfl⟩;rw[←hT2]at r0 r1 r2;have HT2:=hid hT2;obtain⟨lv2,ov2,iso2⟩:=T2;dsimp only at r0 r1 r2;have hk1:(m':Int) - 1=(m2:Int):=by omega
                     have hk2:(m2:Int)<(m':Int):=by omega
                     have HNN2:=hid (show embTo q.K q.base (i+1)=hold ⟨st.take m',0,0,op - 1,C,L⟩ i by rw[HNN.out,HPQ.out]);clear hiso2 HPS2 HIT hosm hT2 hm2' hml HNN;have HNN:=HNN2;clear HNN2;go_wp2_with (first | (go_at_call 84;refine(ref32_any q C L G i lv2 ov2 iso2 _ ?_ hlt hn).mono ?_;exact HEM.out.ps;rintro e' w' ⟨rfl,hp,hf⟩));have HEA:=hid (HEM.out.at (e:=⟨st.take m',0,0,op - 1,C,L⟩) HT2.out HTK.out HBL.out hp hf);clear hp hf;go_wp2;go_roundw
                     case rel=>exact⟨i+1,by go_num,by omega,by rw[HNN.out] <;> first | rfl | go_num,by rw[HNN.out] <;> first | rfl | go_num,by rw[HNN.out] <;> first | rfl | go_num,hid (by rw[HNN.out,HG2.out];exact HEA.out)⟩
                     case measure=>simp[intOf];omega
         ·have hmI:(0:Int)<(mi:Int):=by omega
          have hmc:(mi:Int) - 1=((mi - 1:Nat):Int):=by omega
          have HNN:=hid (HPI.out.1 (by dsimp only;omega));go_wp2_with (first | (go_at_call 41;refine(HI29.out _).mono ?_;rintro e' w' ⟨rfl,rfl⟩) | (go_at_call 84;refine(ref32_any q C L G i lv ov iso _ ?_ hlt hn).mono ?_;exact HE5.out.ps;rintro e' w' ⟨rfl,hp,hf⟩));have HEA:=hid (HE5.out.at (e:=⟨st,mi - 1,me,op,C,L⟩) HTQ.out HTT.out HBL.out hp hf);clear hp hf;go_wp2;go_roundw
          case rel=>exact⟨i+1,by go_num,by omega,by rw[HNN.out] <;> first | rfl | go_num,by rw[HNN.out] <;> first | rfl | go_num,by rw[HNN.out] <;> first | rfl | go_num,hid (by rw[HNN.out,HG2.out];exact HEA.out)⟩
          case measure=>simp[intOf];omega
       ·skip
        as_aux_lemma =>
         subst h;have HI29:Hid (∀w,Calls Tryz.prog 41 #[.int .i64 18] w fun e w'=>e=.returned (.bool false)∧w'=w):=hid (fun w=>ref10_any 18 w);have HG2:=hid (show gAt q.K (i+1)=G.set i true from HGX.out);have d5:=HE5.out.ps.c5;have e6:=HE5.out.ps.rG i hlt;have e7:=HE5.out.ps.sG i hlt;have nG:=HE5.out.ps.neG.1;have HEG:=hid (HE5.out.gone HBL.out hlt);have HPF:=hid (emb_pdf (base:=q.base) (e:=⟨st,mi,me,op,C,L⟩) HC.out.symm);rw[←HNX.out]at HPF;have b2g:(wc.setCell ⟨q.bG,i,none⟩ (.bool true)).cell? ⟨wr.heap.size,2,none⟩=some (.bool iso):=by
          rw[cell_far _ _ _ _ _ _ (by have:=HBL.out.2.2.2.2.2.2;omega)];exact b2
         by_cases hmi:mi=0
         ·subst hmi
          by_cases hme:me=0
          ·subst hme
           have hcap:=owns_cap HOS5.out;have hmc:(m:Int)≤(cap:Int):=by have:=HMM.out;omega
           cases iso
           ·by_cases h1:1<n
            ·have h1I:(1:Int)<(n:Int):=by omega
             have HNN:=hid (show embTo q.K q.base (i+1)=⟨st.take m,0,0,op,C,L⟩ by
                         rw[HPF.out.2.2.1 rfl rfl (by dsimp only;rw[←HTQ.out]) (by dsimp only;rw[←HN.out];exact h1),←dl_take st m (by rw[←HN.out];exact HMM.out)])
             have HET:=hid (HEG.out.take HN.out (show m≤n by have:=HMM.out;omega));go_wp2_with (first | (go_at_call 41;refine(HI29.out _).mono ?_;rintro e' w' ⟨rfl,rfl⟩));go_roundw
             case rel=>exact⟨i+1,by go_num,by omega,by rw[HNN.out] <;> first | rfl | go_num,by rw[HNN.out] <;> first | rfl | go_num,by rw[HNN.out] <;> first | rfl | go_num,hid (by rw[HNN.out,HG2.out];exact HET.out)⟩
             case measure=>simp[intOf];omega
            ·have h1I:¬(1:Int)<(n:Int):=by omega
             have h1d:decide ((1:Int)<(n:Int))=false:=decide_eq_false h1I;have HNN:=hid (HPF.out.2.2.2 rfl rfl (.inr (by dsimp only;rw[←HN.out];omega)));go_wp2_with (first | (go_at_call 41;refine(HI29.out _).mono ?_;rintro e' w' ⟨rfl,rfl⟩));go_roundw
             case rel=>exact⟨i+1,by go_num,by omega,by rw[HNN.out] <;> first | rfl | go_num,by rw[HNN.out] <;> first | rfl | go_num,by rw[HNN.out] <;> first | rfl | go_num,hid (by rw[HNN.out,HG2.out];exact HEG.out)⟩
             case measure=>simp[intOf];omega
           ·have HNN:=hid (HPF.out.2.2.2 rfl rfl (.inl (by dsimp only;rw[←HTQ.out])))
            go_wp2_with (first | (go_at_call 41;refine(HI29.out _).mono ?_;rintro e' w' ⟨rfl,rfl⟩));go_roundw
            case rel=>exact⟨i+1,by go_num,by omega,by rw[HNN.out] <;> first | rfl | go_num,by rw[HNN.out] <;> first | rfl | go_num,by rw[HNN.out] <;> first | rfl | go_num,hid (by rw[HNN.out,HG2.out];exact HEG.out)⟩
            case measure=>simp[intOf];omega
          ·have hmp:(0:Int)<(me:Int):=by omega
           have HNN:=hid (HPF.out.2.1 rfl (by dsimp only;omega));have hmc:(me:Int) - 1=((me - 1:Nat):Int):=by omega
           go_wp2_with (first | (go_at_call 41;refine(HI29.out _).mono ?_;rintro e' w' ⟨rfl,rfl⟩));go_roundw
           case rel=>exact⟨i+1,by go_num,by omega,by rw[HNN.out] <;> first | rfl | go_num,by rw[HNN.out] <;> first | rfl | go_num,by rw[HNN.out] <;> first | rfl | go_num,hid (by rw[HNN.out,HG2.out];exact HEG.out)⟩
           case measure=>simp[intOf];omega
         ·have hmb:((mi:Int) == 0)=false:=by simp;omega
          have hmi':¬(mi:Int)=0:=by omega
          have HNN:=hid (HPF.out.1 (by dsimp only;omega));go_wp2_with (first | (go_at_call 41;refine(HI29.out _).mono ?_;rintro e' w' ⟨rfl,rfl⟩));go_roundw
          case rel=>exact⟨i+1,by go_num,by omega,by rw[HNN.out] <;> first | rfl | go_num,by rw[HNN.out] <;> first | rfl | go_num,by rw[HNN.out] <;> first | rfl | go_num,hid (by rw[HNN.out,HG2.out];exact HEG.out)⟩
          case measure=>simp[intOf];omega
       ·skip
        as_aux_lemma =>
         subst h;have HI29:Hid (∀w,Calls Tryz.prog 41 #[.int .i64 10] w fun e w'=>e=.returned (.bool false)∧w'=w):=hid (fun w=>ref10_any 10 w);have HG2:=hid (show gAt q.K (i+1)=G from HGX.out);have HNN:=hid (HNX.out.trans (emb_b HC.out.symm));have d3:=HE5.out.ps.c3;have d6:=HE5.out.ps.c6;have e6:=HE5.out.ps.rL i hlt;have e7:=HE5.out.ps.sL i hlt;have nL:=HE5.out.ps.neL.1;have hbl:=HBL.out.2.2.2.2.2.1;have hblw:q.bL<wc.heap.size:=by omega
         have HEL:=hid (HE5.out.ps' ⟨HBL.out.2.2.2.2.1,HBL.out.2.2.2.2.2.1,HBL.out.2.2.2.2.2.2⟩ ((Fr.refl _ _).set (b:=q.bL) (i:=i) (by simp) (.int .i64 q.base)) (HE5.out.ps.setL hlt q.base));go_wp2_with (first | (go_at_call 41;refine(HI29.out _).mono ?_;rintro e' w' ⟨rfl,rfl⟩));go_region;go_wp2;go_roundw
         case rel=>exact⟨i+1,by go_num,by omega,by rw[HNN.out] <;> first | rfl | go_num,by rw[HNN.out] <;> first | rfl | go_num,by rw[HNN.out] <;> first | rfl | go_num,hid (by rw[HNN.out,HG2.out];exact(HEL.out.fr0 (frz _ _ _ rfl rfl rfl rfl)))⟩
         case measure=>simp[intOf];omega
       ·skip
        as_aux_lemma =>
         subst h;have HI29:Hid (∀w,Calls Tryz.prog 41 #[.int .i64 9] w fun e w'=>e=.returned (.bool false)∧w'=w):=hid (fun w=>ref10_any 9 w);have HG2:=hid (show gAt q.K (i+1)=G.set i true from HGX.out);have d5:=HE5.out.ps.c5;have e6:=HE5.out.ps.rG i hlt;have e7:=HE5.out.ps.sG i hlt;have nG:=HE5.out.ps.neG.1;have HEG:=hid (HE5.out.gone HBL.out hlt);have HNN:=hid (HNX.out.trans (emb_bn HC.out.symm));go_wp2_with (first | (go_at_call 41;refine(HI29.out _).mono ?_;rintro e' w' ⟨rfl,rfl⟩));go_roundw
         case rel=>exact⟨i+1,by go_num,by omega,by rw[HNN.out] <;> first | rfl | go_num,by rw[HNN.out] <;> first | rfl | go_num,by rw[HNN.out] <;> first | rfl | go_num,hid (by rw[HNN.out,HG2.out];exact HEG.out)⟩
         case measure=>simp[intOf];omega
       ·skip
        as_aux_lemma =>
         obtain⟨hb1,hb2,hb3,hb4,hb5,hb6⟩:=h;have HI29:Hid (∀w,Calls Tryz.prog 41 #[.int .i64 c] w fun e w'=>e=.returned (.bool false)∧w'=w):=hid (fun w=>by have:=ref10_any c w;rw[hb2]at this;exact this);have HNN:=hid (HNX.out.trans (emb_else (by rw[←HC.out];exact hb1) (by rw[←HC.out];exact hb2) (by rw[←HC.out];exact hb3) (by rw[←HC.out];exact hb4) (by rw[←HC.out];exact hb5) (by rw[←HC.out];exact hb6)));have HG2:=hid (show gAt q.K (i+1)=G by rw[HGX.out,if_neg];intro hg;unfold begins at hb1;unfold gone at hg;simp at hb1 hg;omega);have hq:¬c=16∧¬c=14∧¬c=17∧¬c=15:=by unfold begins at hb1;simp at hb1;omega
         obtain⟨q1,q2,q3,q4⟩:=hq;have k1:(c == 16)=false:=by simp[q1]
         have k2:(c == 14)=false:=by simp[q2]
         have k3:(c == 17)=false:=by simp[q3]
         have k4:(c == 15)=false:=by simp[q4]
         have k5:(c == 22)=false:=by simp[hb3]
         have k6:(c == 18)=false:=by simp[hb4]
         have k7:(c == 10)=false:=by simp[hb5]
         have k8:(c == 9)=false:=by simp[hb6]
         clear hb1 hb2;go_wp2_with (first | (go_at_call 41;refine(HI29.out _).mono ?_;rintro e' w' ⟨rfl,rfl⟩) | (go_at_call 84;refine(ref32_any q C L G i lv ov iso _ ?_ hlt hn).mono ?_;exact HE5.out.ps;rintro e' w' ⟨rfl,hp,hf⟩));have HEA:=hid (HE5.out.at (e:=⟨st,mi,me,op,C,L⟩) HTQ.out HTT.out HBL.out hp hf);clear hp hf;go_wp2;go_roundw
         case rel=>exact⟨i+1,by go_num,by omega,by rw[HNN.out] <;> first | rfl | go_num,by rw[HNN.out] <;> first | rfl | go_num,by rw[HNN.out] <;> first | rfl | go_num,hid (by rw[HNN.out,HG2.out];exact HEA.out)⟩
         case measure=>simp[intOf];omega
  ·have hie:i=q.n:=by omega
   have HPZ:=hid (show EW w wr q Z.C Z.L ZG _ Z.st by rw[HZ.out,HZG.out,HK.out,←hie];exact HE.out);clear hie HE;go_wp2;go_end0;exact⟨rfl,HPZ.out.ps,HPZ.out.fr⟩
end Go.Proofs.YtnakejhohdbfdaaGreatDoor

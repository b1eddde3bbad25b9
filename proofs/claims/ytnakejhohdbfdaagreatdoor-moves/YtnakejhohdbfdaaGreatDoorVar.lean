import Derived.Test.YtnakejhohdbfdaaGreatDoorVac
set_option maxHeartbeats 16000000
set_option maxRecDepth 10000
set_option linter.unusedSimpArgs false
namespace Go.Proofs.YtnakejhohdbfdaaGreatDoor
open Go.RowKit jN Go.Proofs.Tryz
theorem qh {w:World}{B g n cap size:Nat}{e:TypeId}{xs:List Value}(h:w.ownsRow B e size (.slice (some ⟨g,0,none⟩) n cap) n xs):n<=cap:=by
 rcases h.2 with⟨h0,_⟩ | ⟨g',cap',cur,hv,hg,hh,hn,_⟩
 ·cases h0
 ·cases hv;exact hn
def jL:List lZ->List Value
 | []=>[]
 | x :: l=>.int .i64 x.lv :: .int .i64 x.ov :: .bool x.l7 :: jL l
theorem w_:∀l m,jL l++jL m=jL (l++m)
 | [],m=>rfl
 | p :: l,m=>by simp[jL,w_ l m]
theorem uq:∀l a,(jL l).take (a * 3)=jL (l.take a)
 | [],a=>by simp[jL]
 | p :: l,0=>rfl
 | p :: l,a+1=>by rw[show(a+1) * 3=a * 3+1+1+1 by omega];simp[jL,uq l a]
theorem zu:∀(l:List lZ) (i:Nat),i<l.length->(jL l)[i * 3]?=some (.int .i64 ((l[i]?).getD default).lv)/\(jL l)[i * 3+1]?=some (.int .i64 ((l[i]?).getD default).ov)/\(jL l)[i * 3+2]?=some (.bool ((l[i]?).getD default).l7)
 | [],_,h=>absurd h (by simp)
 | p :: l,0,_=>by simp[jL]
 | p :: l,i+1,h=>by
   have:=zu l i (by simp at h;omega);rw[show(i+1) * 3=i * 3+1+1+1 by omega];simpa[jL] using this
theorem qO (a b:Int)(c:Bool):∀u∈[Value.int .i64 a,.int .i64 b,.bool c],u.oneCell'=true:=by
 intro u hu;simp at hu
 rcases hu with rfl | rfl | rfl <;> rfl
theorem uZ {w:World}{B g n cap m:Nat}{st:List lZ}(h:w.ownsRow B 149 3 (.slice (some ⟨g,0,none⟩) n cap) n (jL st))(hn:n=st.length)(hm:n=m+1) :
 w.cell? ⟨g,m * 3,none⟩=some (.int .i64 (top st).lv)/\w.cell? ⟨g,m * 3+1,none⟩=some (.int .i64 (top st).ov)/\w.cell? ⟨g,m * 3+2,none⟩=some (.bool (top st).l7):=by
 obtain⟨a1,a2,a3⟩:=zu st m (by omega);have ht:(st[m]?).getD default=top st:=by rw[top,<-hn,hm];rfl
 rw[ht]at a1 a2 a3;exact⟨by rw[h.cellAt _ (by omega),a1],by rw[h.cellAt _ (by omega),a2],by rw[h.cellAt _ (by omega),a3]⟩
structure EW (W wr:World)(q:PH)(C L:List Int)(G:List Bool)(vR:Value)(st:List lZ):Prop where
 ps:PS wr q C L G
 fr:Fr [q.bC,q.bL,q.bG] W wr
 os:wr.ownsRow W.heap.size 149 3 vR st.length (jL st)
theorem EW.iS {W wr w':World}{q:PH}{C L:List Int}{G:List Bool}{vR:Value}{st:List lZ}(h:EW W wr q C L G vR st)(hf:Fr [] wr w'):EW W w' q C L G vR st :=
 ⟨h.ps.iS hf,h.fr.trans (hf.mono (fun _ h _=>absurd h af)),fS h.os hf⟩
theorem EW.ps' {W wr w':World}{q:PH}{C L C' L':List Int}{G G':List Bool}{vR:Value}{st:List lZ}(h:EW W wr q C L G vR st)(hW:q.bC<W.heap.size/\q.bL<W.heap.size/\q.bG<W.heap.size)(hf:Fr [q.bC,q.bL,q.bG] wr w')(hp:PS w' q C' L' G'):EW W w' q C' L' G' vR st :=
 ⟨hp,h.fr.trans hf,BI h.os hf (fun k hk=>by simp at hk;rcases hk with h | h | h <;> omega)⟩
theorem EW.take {W wr:World}{q:PH}{C L:List Int}{G:List Bool}{g n cap m:Nat}{st:List lZ}(h:EW W wr q C L G (.slice (some ⟨g,0,none⟩) n cap) st)(hn:n=st.length)(hm:m<=n):EW W wr q C L G (.slice (some ⟨g,0,none⟩) m cap) (st.take m):=by
 refine⟨h.ps,h.fr,?_⟩;have ho:=h.os;rw[<-hn]at ho;have:=pH ho hm;rw[uq]at this;rw[aP,<-hn,eB hm];exact this
theorem EW.push {W wr w1 w':World}{q:PH}{C L:List Int}{G:List Bool}{vR v':Value}{st:List lZ}{x:lZ}{n:Nat}(h:EW W wr q C L G vR st)(hn:n=st.length)(hf:Fr [] wr w1)(ho:w'.ownsRow W.heap.size 149 3 v' (n+1) (jL st++[.int .i64 x.lv,.int .i64 x.ov,.bool x.l7]))(hg:w1.grownBy w' vR.ownBlock)
 (hW:q.p<W.heap.size/\q.bR<W.heap.size/\q.bF<W.heap.size/\q.bM<W.heap.size/\q.bC<W.heap.size/\q.bL<W.heap.size/\q.bG<W.heap.size):EW W w' q C L G v' (st++[x]):=by
 have h1:=h.iS hf;refine⟨?_,?_,?_⟩
 ·rcases hv:vR.ownBlock with _ | g
  ·rw[hv]at hg
   exact h1.ps.iS (Fr.qR hg)
  ·rw[hv]at hg
   have hge:=(h1.os.lt g hv).1;exact h1.ps.fr (Fr.kI hg) (by simp;omega)
 ·exact h1.fr.grown hg (fun x hx=>(h1.os.lt x hx).1)
 ·rw[aG,<-w_,<-hn];exact ho
theorem EW.at {W wr w':World}{q:PH}{e:wo}{G:List Bool}{vR:Value}{st:List lZ}{i:Nat}{lv ov:Int}{l7:Bool}(h:EW W wr q e.C e.L G vR st)(hT:⟨lv,ov,l7⟩=top e.st)(hk:qH (top e.st))(hW:q.p<W.heap.size/\q.bR<W.heap.size/\q.bF<W.heap.size/\q.bM<W.heap.size/\q.bC<W.heap.size/\q.bL<W.heap.size/\q.bG<W.heap.size)
 (hp:PS w' q (if 0<=ov then e.C.set i ov else e.C) (e.L.set i lv) G) (hf:Fr [q.bC,q.bL] wr w'):EW W w' q (hold e i).C (hold e i).L G vR st:=by
 refine h.ps' ⟨hW.2.2.2.2.1,hW.2.2.2.2.2.1,hW.2.2.2.2.2.2⟩ (hf.mono (fun k hk _=>by simp at hk ⊢;omega)) ?_;rw[Kw hk,Fa,<-hT];exact hp
theorem EW.gone {W wr:World}{q:PH}{C L:List Int}{G:List Bool}{vR:Value}{st:List lZ}{i:Nat}(h:EW W wr q C L G vR st)(hW:q.p<W.heap.size/\q.bR<W.heap.size/\q.bF<W.heap.size/\q.bM<W.heap.size/\q.bC<W.heap.size/\q.bL<W.heap.size/\q.bG<W.heap.size)(hi:i<q.n):EW W (wr.setCell ⟨q.bG,i,none⟩ (.bool true)) q C L (G.set i true) vR st :=
 h.ps' ⟨hW.2.2.2.2.1,hW.2.2.2.2.2.1,hW.2.2.2.2.2.2⟩ ((Fr.refl _ _).set (by simp) _) (h.ps.ad7 hi true)
def QH:Value->Nat
 | .slice _ n _=>n
 | _=>0
def Ah (w:World)(b:Nat)(x:lZ):Prop:=w.cell? ⟨b,0,none⟩=some (.int .i64 x.lv)/\w.cell? ⟨b,1,none⟩=some (.int .i64 x.ov)/\w.cell? ⟨b,2,none⟩=some (.bool x.l7)
theorem Ah.fr {S:List Nat}{w w':World}{b:Nat}{x:lZ}(h:Ah w b x)(hf:Fr S w w')(hb:b ∉ S):Ah w' b x:=⟨hf.cell h.1 hb,hf.cell h.2.1 hb,hf.cell h.2.2 hb⟩
theorem MR (q:PH)(w:World)(hK:q.K.length=q.n)(hn:q.n<=1000000)(hn0:0<q.n)(hb:q.base=0\/q.base=1)
 (hM:∀i,i<q.n->nth q.M i=if j6 (nth q.K i)then pZ (kP q.K i)else -1)
 (hs:PS w q q.K (List.replicate q.K.length 0) (tV q.K 0)) :
 Calls prog 44 #[.pointer (some ⟨q.p,0,none⟩)] w fun e w'=>e=.returned (.tuple #[])/\PS w' q (gK q.K q.base q.K.length).C (gK q.K q.base q.K.length).L (tV q.K q.K.length)/\Fr [q.bC,q.bL,q.bG] w w':=by
 obtain⟨i0,hi,hz0,hz1,hz2⟩:=e_ TJ;have hlp:=hs.lt;have qM:=hid (show q.p<w.heap.size/\q.bR<w.heap.size/\q.bF<w.heap.size/\q.bM<w.heap.size/\q.bC<w.heap.size/\q.bL<w.heap.size/\q.bG<w.heap.size from⟨hs.lt,hs.ltR hn0,hs.ltF hn0,hs.ltM hn0,hs.Td hn0,hs.ltL hn0,hs.ltG hn0⟩);have c6:=hs.c6;have HS:=hid hs;have HM:=hid hM;have HK:=hid hK;have Iq:=hid hb;obtain⟨Z,hZ⟩:∃Z,Z=gK q.K q.base q.K.length:=⟨_,rfl⟩;obtain⟨ZG,Tl⟩:∃ZG,ZG=tV q.K q.K.length:=⟨_,rfl⟩;rw[<-hZ,<-Tl];have HZ:=hid hZ;have HZG:=hid Tl;clear hs hM hK hb hZ Tl;go_enter func44,ntmps44;go_wp2;go_loopw [2,3,4,5,6] (fun vR mi me op ii wr=>∃(i:Nat),ii=.int .i64 i/\i<=q.n/\mi=.int .i64 ((gK q.K q.base i).mi:Nat)/\me=.int .i64 ((gK q.K q.base i).me:Nat)/\op=.int .i64 ((gK q.K q.base i).op:Nat)/\Hid (EW w wr q (gK q.K q.base i).C (gK q.K q.base i).L (tV q.K i) vR (gK q.K q.base i).st)) (fun _ _ _ _ ii _=>q.n - (intOf ii).toNat)
 case atStart =>
  refine⟨0,rfl,aH _,rfl,rfl,rfl,hid ⟨HS.out.alloc _,(Fr.refl _ w).alloc _,?_⟩⟩;exact fE (base:=w.heap.size) (e:=149) (size:=3) w #[.int .i64 q.base,.int .i64 (-1),.bool false] 1 (ak _) (by decide) rfl
 case round =>
  obtain⟨i,rfl,hin,rfl,rfl,rfl,HE⟩:=hrel;have d2:=HE.out.ps.c2;by_cases hlt:i<q.n
  ·have oh:=hid (nM q.K q.base Iq.out i (by rw[HK.out];exact hin))
   have mN:=hid (show gK q.K q.base (i+1)=iB q.K q.base i (gK q.K q.base i)from rfl);have MS:=hid (show tV q.K (i+1)=if gone (nth q.K i)then(tV q.K i).set i true else tV q.K i from rfl);have hz:=oh.out.sz;have HT:=hid (tQ oh.out.st);have hpos:=Fe oh.out.st;have DF:=oh.out.op;obtain⟨c,hc⟩:∃c,c=nth q.K i:=⟨_,rfl⟩;obtain⟨odd,hodd⟩:∃b,b=jm q.K i:=⟨_,rfl⟩;obtain⟨nx,hnx⟩:∃x,x=jG (top (gK q.K q.base i).st).lv odd:=⟨_,rfl⟩;obtain⟨F,hF⟩:∃F,F=fits (gK q.K q.base i) nx:=⟨_,rfl⟩;have pL:=hid (show nx=jG (top (gK q.K q.base i).st).lv (jm q.K i) by rw[hnx,hodd]);rw[<-hc]at MS;generalize gK q.K q.base i=e at *;generalize tV q.K i=G at *;obtain⟨st,mi,me,op,C,L⟩:=e;dsimp only at *;obtain⟨n,hn⟩:∃n,n=st.length:=⟨_,rfl⟩;obtain⟨m,hm⟩:∃m,n=m+1:=⟨n - 1,by omega⟩;have hos:=HE.out.os;rw[<-hn]at hos;have XZ:=hid hos;clear hos;obtain⟨g,cap,hv⟩:=fR (by omega) XZ.out;subst hv;obtain⟨t0,t1,t2⟩:=uZ XZ.out hn hm;have HN:=hid hn;have QC:=hid hm;have hnm:(n:Int) - 1=(m:Int):=by omega
   have hmn:(m:Int)<(n:Int):=by omega
   have e1:=HE.out.ps.rF i hlt;have d1:=HE.out.ps.c1;have JA:=hid (show qH (top st)from HT.out);obtain⟨T,hT⟩:∃T,T=top st:=⟨_,rfl⟩;have hlv:=JA.out.1;have abb:=JA.out.2.1;have hov:=JA.out.2.2;rw[<-hT]at t0 t1 t2 hnx hlv abb hov;rw[<-hc]at e1;have Ot:=hid hT;have HC:=hid hc;have UN:=hid hodd;have UO:=hid hnx;have HF:=hid hF;have hsz:=HE.out.fr.size;have JB:op<=i:=by have h1:=oh.out.cnt;dsimp only at h1;have h2:=wG q.K i;omega
   have QI:=hid (show op=mW st.reverse from DF);have X0:=hid (show qo st.reverse from oh.out.st);have afc:=hz.1;have akk:=hz.2.1;have akl:=hz.2.2;rw[<-hn]at afc;clear hc hodd hnx hF hn hm hz DF hpos hT HT oh;obtain⟨lv,ov,l7⟩:=T;dsimp only at t0 t1 t2 hlv abb hov;go_upto_region 9 with fail
   have jK:=hid (HE.out.iS ((Fr.refl [] wr).alloc (.cells #[.int .i64 lv,.int .i64 ov,.bool l7] 149)));have HB1:=hid (show Ah (wr.alloc (.cells #[.int .i64 lv,.int .i64 ov,.bool l7] 149)) wr.heap.size ⟨lv,ov,l7⟩from⟨by rw[eZ _ _ _ _ rfl];rfl,by rw[eZ _ _ _ _ rfl];rfl,by rw[eZ _ _ _ _ rfl];rfl⟩);go_cut [9]from 21 to 21 (fun a wx=>a=.bool (c == 16 || c == 17 || c == 20)/\Hid (EW w wx q C L G (.slice (some ⟨g,0,none⟩) n cap) st)/\Hid (Ah wx wr.heap.size ⟨lv,ov,l7⟩))
   case first =>
    as_aux_lemma =>
     by_cases h16:c=16
     ·subst h16
      go_wp2;go_meet
      case rel=>exact⟨rfl,jK,HB1⟩
     ·by_cases h17:c=17
      ·subst h17
       go_wp2;go_meet
       case rel=>exact⟨rfl,jK,HB1⟩
      ·by_cases h20:c=20
       ·subst h20
        go_wp2;go_meet
        case rel=>exact⟨rfl,jK,HB1⟩
       ·go_wp2
        go_meet
        case rel=>exact⟨by simp[h16,h17,h20],jK,HB1⟩
   case rest =>
    obtain⟨rfl,HE2,HB2⟩:=hcut;clear jK HB1 t0 t1 t2 e1 d1 d2;go_upto_if 54 with fail
    go_cut [9]from 53 to 54 (fun a wx=>a=.bool odd/\Hid (EW w wx q C L G (.slice (some ⟨g,0,none⟩) n cap) st)/\Hid (Ah wx wr.heap.size ⟨lv,ov,l7⟩))
    case first =>
     as_aux_lemma =>
      by_cases h21:c=21
      ·subst h21
       have d1:=HE2.out.ps.c1;have d2:=HE2.out.ps.c2;have d4:=HE2.out.ps.c4;have e4:=HE2.out.ps.rM i hlt;rw[HM.out i hlt,<-HC.out,ay (by decide)]at e4;have Ft:=hid (show odd=strong q.K (i+1) ((kP q.K i).getD q.K.length) by rw[UN.out,jm,ay HC.out.symm]);cases hmt:kP q.K i with
       | none =>
         rw[hmt]at e4 Ft
         have Mg:Hid (Calls prog 43 #[.slice (some ⟨q.bF,0,none⟩) q.n q.cF,.int .i64 ((i:Int)+1),.int .i64 q.n] wc fun e w'=>e=.returned (.bool odd)/\w'=wc):=hid (by
          have:=rA q.bF q.n q.cF q.K (i+1) q.n wc HK.out hn (ak _) (by omega) HE2.out.ps.rF
          rw[dL]at this
          rw[Ft.out,Option.getD_none,HK.out]
          exact this)
         dsimp only[pZ]at e4;clear hmt Ft;go_wp2_with (first | (go_at_call 43;refine Mg.out.mono ?_;rintro e' w' ⟨rfl,rfl⟩));go_meet
         case rel=>exact⟨rfl,HE2,HB2⟩
       | some mt =>
         rw[hmt]at e4 Ft;have UP:=xP _ _ _ hmt
         have Mg:Hid (Calls prog 43 #[.slice (some ⟨q.bF,0,none⟩) q.n q.cF,.int .i64 ((i:Int)+1),.int .i64 mt] wc fun e w'=>e=.returned (.bool odd)/\w'=wc):=hid (by
          have:=rA q.bF q.n q.cF q.K (i+1) mt wc HK.out hn (by rw[<-HK.out];omega) (by omega) HE2.out.ps.rF
          rw[dL]at this
          rw[Ft.out,dB]
          exact this)
         dsimp only[pZ]at e4;clear hmt Ft;go_wp2_with (first | (go_at_call 43;refine Mg.out.mono ?_;rintro e' w' ⟨rfl,rfl⟩));go_meet
         case rel=>exact⟨rfl,HE2,HB2⟩
      ·have akm:(c == 21)=false:=by simp[h21]
       have Ft:=hid (show odd=(c == 16 || c == 17 || c == 20) by rw[UN.out,jm,au (by rw[<-HC.out];exact h21),<-HC.out]);go_wp2;go_meet
       case rel=>exact⟨by rw[Ft.out],HE2,HB2⟩
    case rest =>
     obtain⟨rfl,X1,HB3⟩:=hcut;clear HE2 HB2;have b0:=HB3.out.1;dsimp only at b0;go_upto_if 84 with fail
     go_cut [11]from 21 to 21 (fun a wx=>a=.int .i64 nx/\Hid (EW w wx q C L G (.slice (some ⟨g,0,none⟩) n cap) st)/\Hid (Ah wx wr.heap.size ⟨lv,ov,l7⟩))
     case first =>
      as_aux_lemma =>
       have hnf:(odd=true->((lv+1) % 2=1->nx=lv+1)/\(¬(lv+1) % 2=1->nx=lv+2))/\(odd=false->((lv+1) % 2=1->nx=lv+2)/\(¬(lv+1) % 2=1->nx=lv+1)):=by
        rw[UO.out];refine⟨fun h=>⟨fun h1=>?_,fun h1=>?_⟩,fun h=>⟨fun h1=>?_,fun h1=>?_⟩⟩ <;> (dsimp only[jG];subst h;simp[h1])
       cases odd
       ·have afd:=hnf.2 rfl
        clear hnf UO UN pL b0;go_wp2
        all_goals go_meet
        all_goals exact⟨by congr 1;first | omega | (simp at *;omega),X1,HB3⟩
       ·have afd:=hnf.1 rfl
        clear hnf UO UN pL b0;go_wp2
        all_goals go_meet
        all_goals exact⟨by congr 1;first | omega | (simp at *;omega),X1,HB3⟩
     case rest =>
      obtain⟨rfl,KO,Mv⟩:=hcut;clear X1 HB3 b0;have akn:lv+1<=nx/\nx<=lv+2:=by have:=E_ lv odd;rw[<-UO.out]at this;omega
      go_upto_region 18 with fail
      go_cut [12]from 21 to 21 (fun a wx=>a=.bool F/\Hid (EW w wx q C L G (.slice (some ⟨g,0,none⟩) n cap) st)/\Hid (Ah wx wr.heap.size ⟨lv,ov,l7⟩))
      case first =>
       as_aux_lemma =>
        have Ab:=hid (show F=(decide (nx<=9) && mi == 0 && me == 0)from HF.out);by_cases h9:nx<=9
        ·have QJ:decide (nx<=9)=true:=aZ h9
         by_cases tR:mi=0
         ·subst tR
          by_cases hme:me=0
          ·subst hme
           go_wp2;go_meet
           case rel=>exact⟨by rw[Ab.out,QJ];rfl,KO,Mv⟩
          ·have hmb:((me:Int) == 0)=false:=by simp;omega
           have FF:¬(me:Int)=0:=by omega
           go_wp2;go_meet
           case rel=>exact⟨by rw[Ab.out,QJ];simp[hme],KO,Mv⟩
         ·have hmb:((mi:Int) == 0)=false:=by simp;omega
          have FF:¬(mi:Int)=0:=by omega
          go_wp2;go_meet
          case rel=>exact⟨by rw[Ab.out,QJ];simp[tR],KO,Mv⟩
        ·have QJ:decide (nx<=9)=false:=aK h9
         go_wp2;go_meet
         case rel=>exact⟨by rw[Ab.out,QJ];rfl,KO,Mv⟩
      case rest =>
       obtain⟨rfl,m8,X2⟩:=hcut;clear KO Mv;obtain⟨b0,b1,b2⟩:=X2.out;dsimp only at b0 b1 b2;have hsz5:=m8.out.fr.size;have X3:=m8.out.os;rw[<-HN.out]at X3;have abd:=hid X3;clear X3;have hcl:c=16\/c=14\/c=17\/c=15\/c=19\/c=20\/c=21\/c=22\/c=18\/c=10\/c=9\/(begins c=false/\j6 c=false/\c≠22/\c≠18/\c≠10/\c≠9):=by
        simp only[begins,j6,Bool.or_eq_false_iff,aF];omega
       rcases hcl with h | h | h | h | h | h | h | h | h | h | h | h
       ·skip
        as_aux_lemma =>
         subst h;have kZ:Hid (∀w,Calls prog 41 #[.int .i64 16] w fun e w'=>e=.returned (.bool false)/\w'=w):=hid (fun w=>gG 16 w);have r_:=hid (m5 (base:=q.base) (e:=⟨st,mi,me,op,C,L⟩) HC.out.symm (by decide) pL.out);rw[<-mN.out]at r_;have HG2:=hid (show tV q.K (i+1)=G.set i true from MS.out);have d5:=m8.out.ps.c5;have e6:=m8.out.ps.rG i hlt;have e7:=m8.out.ps.sG i hlt;have nG:=m8.out.ps.I3.1;have zw:=hid (m8.out.gone qM.out hlt);cases F
         ·by_cases tR:mi=0
          ·subst tR
           have iA:=hid (r_.out.2.1 HF.out.symm rfl);go_wp2_with (first | (go_at_call 41;refine(kZ.out _).mono ?_;rintro e' w' ⟨rfl,rfl⟩));go_roundw
           case rel=>exact⟨i+1,by go_num,by omega,by rw[iA.out] <;> first | rfl | go_num,by rw[iA.out] <;> first | rfl | go_num,by rw[iA.out] <;> first | rfl | go_num,hid (by rw[iA.out,HG2.out];exact zw.out)⟩
           case measure=>simp[intOf];omega
          ·have hmb:((mi:Int) == 0)=false:=by simp;omega
           have FF:¬(mi:Int)=0:=by omega
           have iA:=hid (r_.out.2.2 HF.out.symm tR);go_wp2_with (first | (go_at_call 41;refine(kZ.out _).mono ?_;rintro e' w' ⟨rfl,rfl⟩));go_roundw
           case rel=>exact⟨i+1,by go_num,by omega,by rw[iA.out] <;> first | rfl | go_num,by rw[iA.out] <;> first | rfl | go_num,by rw[iA.out] <;> first | rfl | go_num,hid (by rw[iA.out,HG2.out];exact zw.out)⟩
           case measure=>simp[intOf];omega
         ·have iA:=hid (r_.out.1 HF.out.symm)
          have xe:=zw.out.os;rw[<-HN.out]at xe;have JC:=hid xe;clear xe;go_wp2_with (first | (go_at_call 41;refine(kZ.out _).mono ?_;rintro e' w' ⟨rfl,rfl⟩) | (at_builtin;refine eV _ rfl _ _ 150 rfl w.heap.size 149 i0 _ 3 24 underlying150 hi hz0 hz1 hz2 rfl (by decide) _ n (jL st) rfl ?own _ 1 1 [.int .i64 nx,.int .i64 (-1),.bool false] rfl rfl (iC _ _ _ _ (by simp)) (qO _ _ _) (by unfold maxLen;omega) (by omega) ?nY ?_))
          case own=>exact fS JC.out ((Fr.refl [] _).alloc _)
          case nY=>simp;omega
          intro v' w3 gM hgrow hnil;have oO:=hid (zw.out.push (x:=⟨nx,-1,false⟩) HN.out ((Fr.refl [] _).alloc _) gM hgrow qM.out);clear gM hgrow hnil;go_wp2;go_roundw
          case rel=>exact⟨i+1,by go_num,by omega,by rw[iA.out] <;> first | rfl | go_num,by rw[iA.out] <;> first | rfl | go_num,by rw[iA.out] <;> first | rfl | go_num,hid (by rw[iA.out,HG2.out];exact oO.out)⟩
          case measure=>simp[intOf];omega
       ·skip
        as_aux_lemma =>
         subst h;have kZ:Hid (∀w,Calls prog 41 #[.int .i64 14] w fun e w'=>e=.returned (.bool false)/\w'=w):=hid (fun w=>gG 14 w);have r_:=hid (m5 (base:=q.base) (e:=⟨st,mi,me,op,C,L⟩) HC.out.symm (by decide) pL.out);rw[<-mN.out]at r_;have HG2:=hid (show tV q.K (i+1)=G.set i true from MS.out);have d5:=m8.out.ps.c5;have e6:=m8.out.ps.rG i hlt;have e7:=m8.out.ps.sG i hlt;have nG:=m8.out.ps.I3.1;have zw:=hid (m8.out.gone qM.out hlt);cases F
         ·by_cases tR:mi=0
          ·subst tR
           have iA:=hid (r_.out.2.1 HF.out.symm rfl);go_wp2_with (first | (go_at_call 41;refine(kZ.out _).mono ?_;rintro e' w' ⟨rfl,rfl⟩));go_roundw
           case rel=>exact⟨i+1,by go_num,by omega,by rw[iA.out] <;> first | rfl | go_num,by rw[iA.out] <;> first | rfl | go_num,by rw[iA.out] <;> first | rfl | go_num,hid (by rw[iA.out,HG2.out];exact zw.out)⟩
           case measure=>simp[intOf];omega
          ·have hmb:((mi:Int) == 0)=false:=by simp;omega
           have FF:¬(mi:Int)=0:=by omega
           have iA:=hid (r_.out.2.2 HF.out.symm tR);go_wp2_with (first | (go_at_call 41;refine(kZ.out _).mono ?_;rintro e' w' ⟨rfl,rfl⟩));go_roundw
           case rel=>exact⟨i+1,by go_num,by omega,by rw[iA.out] <;> first | rfl | go_num,by rw[iA.out] <;> first | rfl | go_num,by rw[iA.out] <;> first | rfl | go_num,hid (by rw[iA.out,HG2.out];exact zw.out)⟩
           case measure=>simp[intOf];omega
         ·have iA:=hid (r_.out.1 HF.out.symm)
          have xe:=zw.out.os;rw[<-HN.out]at xe;have JC:=hid xe;clear xe;go_wp2_with (first | (go_at_call 41;refine(kZ.out _).mono ?_;rintro e' w' ⟨rfl,rfl⟩) | (at_builtin;refine eV _ rfl _ _ 150 rfl w.heap.size 149 i0 _ 3 24 underlying150 hi hz0 hz1 hz2 rfl (by decide) _ n (jL st) rfl ?own _ 1 1 [.int .i64 nx,.int .i64 (-1),.bool false] rfl rfl (iC _ _ _ _ (by simp)) (qO _ _ _) (by unfold maxLen;omega) (by omega) ?nY ?_))
          case own=>exact fS JC.out ((Fr.refl [] _).alloc _)
          case nY=>simp;omega
          intro v' w3 gM hgrow hnil;have oO:=hid (zw.out.push (x:=⟨nx,-1,false⟩) HN.out ((Fr.refl [] _).alloc _) gM hgrow qM.out);clear gM hgrow hnil;go_wp2;go_roundw
          case rel=>exact⟨i+1,by go_num,by omega,by rw[iA.out] <;> first | rfl | go_num,by rw[iA.out] <;> first | rfl | go_num,by rw[iA.out] <;> first | rfl | go_num,hid (by rw[iA.out,HG2.out];exact oO.out)⟩
          case measure=>simp[intOf];omega
       ·skip
        as_aux_lemma =>
         subst h;have kZ:Hid (∀w,Calls prog 41 #[.int .i64 17] w fun e w'=>e=.returned (.bool false)/\w'=w):=hid (fun w=>gG 17 w);have r_:=hid (m5 (base:=q.base) (e:=⟨st,mi,me,op,C,L⟩) HC.out.symm (by decide) pL.out);rw[<-mN.out]at r_;have HG2:=hid (show tV q.K (i+1)=G.set i true from MS.out);have d5:=m8.out.ps.c5;have e6:=m8.out.ps.rG i hlt;have e7:=m8.out.ps.sG i hlt;have nG:=m8.out.ps.I3.1;have zw:=hid (m8.out.gone qM.out hlt);cases F
         ·by_cases tR:mi=0
          ·subst tR
           have iA:=hid (r_.out.2.1 HF.out.symm rfl);go_wp2_with (first | (go_at_call 41;refine(kZ.out _).mono ?_;rintro e' w' ⟨rfl,rfl⟩));go_roundw
           case rel=>exact⟨i+1,by go_num,by omega,by rw[iA.out] <;> first | rfl | go_num,by rw[iA.out] <;> first | rfl | go_num,by rw[iA.out] <;> first | rfl | go_num,hid (by rw[iA.out,HG2.out];exact zw.out)⟩
           case measure=>simp[intOf];omega
          ·have hmb:((mi:Int) == 0)=false:=by simp;omega
           have FF:¬(mi:Int)=0:=by omega
           have iA:=hid (r_.out.2.2 HF.out.symm tR);go_wp2_with (first | (go_at_call 41;refine(kZ.out _).mono ?_;rintro e' w' ⟨rfl,rfl⟩));go_roundw
           case rel=>exact⟨i+1,by go_num,by omega,by rw[iA.out] <;> first | rfl | go_num,by rw[iA.out] <;> first | rfl | go_num,by rw[iA.out] <;> first | rfl | go_num,hid (by rw[iA.out,HG2.out];exact zw.out)⟩
           case measure=>simp[intOf];omega
         ·have iA:=hid (r_.out.1 HF.out.symm)
          have xe:=zw.out.os;rw[<-HN.out]at xe;have JC:=hid xe;clear xe;go_wp2_with (first | (go_at_call 41;refine(kZ.out _).mono ?_;rintro e' w' ⟨rfl,rfl⟩) | (at_builtin;refine eV _ rfl _ _ 150 rfl w.heap.size 149 i0 _ 3 24 underlying150 hi hz0 hz1 hz2 rfl (by decide) _ n (jL st) rfl ?own _ 1 1 [.int .i64 nx,.int .i64 (1),.bool false] rfl rfl (iC _ _ _ _ (by simp)) (qO _ _ _) (by unfold maxLen;omega) (by omega) ?nY ?_))
          case own=>exact fS JC.out ((Fr.refl [] _).alloc _)
          case nY=>simp;omega
          intro v' w3 gM hgrow hnil;have oO:=hid (zw.out.push (x:=⟨nx,1,false⟩) HN.out ((Fr.refl [] _).alloc _) gM hgrow qM.out);clear gM hgrow hnil;go_wp2;go_roundw
          case rel=>exact⟨i+1,by go_num,by omega,by rw[iA.out] <;> first | rfl | go_num,by rw[iA.out] <;> first | rfl | go_num,by rw[iA.out] <;> first | rfl | go_num,hid (by rw[iA.out,HG2.out];exact oO.out)⟩
          case measure=>simp[intOf];omega
       ·skip
        as_aux_lemma =>
         subst h;have kZ:Hid (∀w,Calls prog 41 #[.int .i64 15] w fun e w'=>e=.returned (.bool false)/\w'=w):=hid (fun w=>gG 15 w);have r_:=hid (m5 (base:=q.base) (e:=⟨st,mi,me,op,C,L⟩) HC.out.symm (by decide) pL.out);rw[<-mN.out]at r_;have HG2:=hid (show tV q.K (i+1)=G.set i true from MS.out);have d5:=m8.out.ps.c5;have e6:=m8.out.ps.rG i hlt;have e7:=m8.out.ps.sG i hlt;have nG:=m8.out.ps.I3.1;have zw:=hid (m8.out.gone qM.out hlt);cases F
         ·by_cases tR:mi=0
          ·subst tR
           have iA:=hid (r_.out.2.1 HF.out.symm rfl);go_wp2_with (first | (go_at_call 41;refine(kZ.out _).mono ?_;rintro e' w' ⟨rfl,rfl⟩));go_roundw
           case rel=>exact⟨i+1,by go_num,by omega,by rw[iA.out] <;> first | rfl | go_num,by rw[iA.out] <;> first | rfl | go_num,by rw[iA.out] <;> first | rfl | go_num,hid (by rw[iA.out,HG2.out];exact zw.out)⟩
           case measure=>simp[intOf];omega
          ·have hmb:((mi:Int) == 0)=false:=by simp;omega
           have FF:¬(mi:Int)=0:=by omega
           have iA:=hid (r_.out.2.2 HF.out.symm tR);go_wp2_with (first | (go_at_call 41;refine(kZ.out _).mono ?_;rintro e' w' ⟨rfl,rfl⟩));go_roundw
           case rel=>exact⟨i+1,by go_num,by omega,by rw[iA.out] <;> first | rfl | go_num,by rw[iA.out] <;> first | rfl | go_num,by rw[iA.out] <;> first | rfl | go_num,hid (by rw[iA.out,HG2.out];exact zw.out)⟩
           case measure=>simp[intOf];omega
         ·have iA:=hid (r_.out.1 HF.out.symm)
          have xe:=zw.out.os;rw[<-HN.out]at xe;have JC:=hid xe;clear xe;go_wp2_with (first | (go_at_call 41;refine(kZ.out _).mono ?_;rintro e' w' ⟨rfl,rfl⟩) | (at_builtin;refine eV _ rfl _ _ 150 rfl w.heap.size 149 i0 _ 3 24 underlying150 hi hz0 hz1 hz2 rfl (by decide) _ n (jL st) rfl ?own _ 1 1 [.int .i64 nx,.int .i64 (0),.bool false] rfl rfl (iC _ _ _ _ (by simp)) (qO _ _ _) (by unfold maxLen;omega) (by omega) ?nY ?_))
          case own=>exact fS JC.out ((Fr.refl [] _).alloc _)
          case nY=>simp;omega
          intro v' w3 gM hgrow hnil;have oO:=hid (zw.out.push (x:=⟨nx,0,false⟩) HN.out ((Fr.refl [] _).alloc _) gM hgrow qM.out);clear gM hgrow hnil;go_wp2;go_roundw
          case rel=>exact⟨i+1,by go_num,by omega,by rw[iA.out] <;> first | rfl | go_num,by rw[iA.out] <;> first | rfl | go_num,by rw[iA.out] <;> first | rfl | go_num,hid (by rw[iA.out,HG2.out];exact oO.out)⟩
          case measure=>simp[intOf];omega
       ·skip
        as_aux_lemma =>
         subst h;have kZ:Hid (∀w,Calls prog 41 #[.int .i64 19] w fun e w'=>e=.returned (.bool true)/\w'=w):=hid (fun w=>gG 19 w);have r_:=hid (uJ (base:=q.base) (e:=⟨st,mi,me,op,C,L⟩) HC.out.symm (by decide) pL.out);rw[<-mN.out]at r_;have HG2:=hid (show tV q.K (i+1)=G from MS.out);cases F
         ·have iA:=hid (r_.out.2 HF.out.symm)
          go_wp2_with (first | (go_at_call 41;refine(kZ.out _).mono ?_;rintro e' w' ⟨rfl,rfl⟩) | (go_at_call 84;refine(lM q C L G i lv ov l7 _ ?_ hlt hn).mono ?_;exact m8.out.ps;rintro e' w' ⟨rfl,hp,hf⟩));have AG:=hid (m8.out.at (e:=⟨st,mi,me,op,C,L⟩) Ot.out JA.out qM.out hp hf);clear hp hf;go_wp2;go_roundw
          case rel=>exact⟨i+1,by go_num,by omega,by rw[iA.out] <;> first | rfl | go_num,by rw[iA.out] <;> first | rfl | go_num,by rw[iA.out] <;> first | rfl | go_num,hid (by rw[iA.out,HG2.out];exact AG.out)⟩
          case measure=>simp[intOf];omega
         ·have iA:=hid (r_.out.1 HF.out.symm)
          go_wp2_with (first | (go_at_call 41;refine(kZ.out _).mono ?_;rintro e' w' ⟨rfl,rfl⟩) | (go_at_call 84;refine(lM q C L G i lv ov l7 _ ?_ hlt hn).mono ?_;exact m8.out.ps;rintro e' w' ⟨rfl,hp,hf⟩;have AG:=hid (m8.out.at (e:=⟨st,mi,me,op,C,L⟩) Ot.out JA.out qM.out hp hf);have CD:=AG.out.os;rw[<-HN.out]at CD;have QK:=hid CD;have abe:=AG.out.fr.size;clear hp hf CD) | (at_builtin;refine eV _ rfl _ _ 150 rfl w.heap.size 149 i0 _ 3 24 underlying150 hi hz0 hz1 hz2 rfl (by decide) _ n (jL st) rfl ?own _ 1 1 [.int .i64 nx,.int .i64 (-1),.bool true] rfl rfl (iC _ _ _ _ (by simp)) (qO _ _ _) (by unfold maxLen;omega) (by omega) ?nY ?_))
          case own=>exact fS QK.out ((Fr.refl [] _).alloc _)
          case nY=>simp;omega
          intro v' w3 gM hgrow hnil;have oO:=hid (AG.out.push (x:=⟨nx,-1,true⟩) HN.out ((Fr.refl [] _).alloc _) gM hgrow qM.out);clear gM hgrow hnil;go_wp2;go_roundw
          case rel=>exact⟨i+1,by go_num,by omega,by rw[iA.out] <;> first | rfl | go_num,by rw[iA.out] <;> first | rfl | go_num,by rw[iA.out] <;> first | rfl | go_num,hid (by rw[iA.out,HG2.out];exact oO.out)⟩
          case measure=>simp[intOf];omega
       ·skip
        as_aux_lemma =>
         subst h;have kZ:Hid (∀w,Calls prog 41 #[.int .i64 20] w fun e w'=>e=.returned (.bool true)/\w'=w):=hid (fun w=>gG 20 w);have r_:=hid (uJ (base:=q.base) (e:=⟨st,mi,me,op,C,L⟩) HC.out.symm (by decide) pL.out);rw[<-mN.out]at r_;have HG2:=hid (show tV q.K (i+1)=G from MS.out);cases F
         ·have iA:=hid (r_.out.2 HF.out.symm)
          go_wp2_with (first | (go_at_call 41;refine(kZ.out _).mono ?_;rintro e' w' ⟨rfl,rfl⟩) | (go_at_call 84;refine(lM q C L G i lv ov l7 _ ?_ hlt hn).mono ?_;exact m8.out.ps;rintro e' w' ⟨rfl,hp,hf⟩));have AG:=hid (m8.out.at (e:=⟨st,mi,me,op,C,L⟩) Ot.out JA.out qM.out hp hf);clear hp hf;go_wp2;go_roundw
          case rel=>exact⟨i+1,by go_num,by omega,by rw[iA.out] <;> first | rfl | go_num,by rw[iA.out] <;> first | rfl | go_num,by rw[iA.out] <;> first | rfl | go_num,hid (by rw[iA.out,HG2.out];exact AG.out)⟩
          case measure=>simp[intOf];omega
         ·have iA:=hid (r_.out.1 HF.out.symm)
          go_wp2_with (first | (go_at_call 41;refine(kZ.out _).mono ?_;rintro e' w' ⟨rfl,rfl⟩) | (go_at_call 84;refine(lM q C L G i lv ov l7 _ ?_ hlt hn).mono ?_;exact m8.out.ps;rintro e' w' ⟨rfl,hp,hf⟩;have AG:=hid (m8.out.at (e:=⟨st,mi,me,op,C,L⟩) Ot.out JA.out qM.out hp hf);have CD:=AG.out.os;rw[<-HN.out]at CD;have QK:=hid CD;have abe:=AG.out.fr.size;clear hp hf CD) | (at_builtin;refine eV _ rfl _ _ 150 rfl w.heap.size 149 i0 _ 3 24 underlying150 hi hz0 hz1 hz2 rfl (by decide) _ n (jL st) rfl ?own _ 1 1 [.int .i64 nx,.int .i64 (-1),.bool true] rfl rfl (iC _ _ _ _ (by simp)) (qO _ _ _) (by unfold maxLen;omega) (by omega) ?nY ?_))
          case own=>exact fS QK.out ((Fr.refl [] _).alloc _)
          case nY=>simp;omega
          intro v' w3 gM hgrow hnil;have oO:=hid (AG.out.push (x:=⟨nx,-1,true⟩) HN.out ((Fr.refl [] _).alloc _) gM hgrow qM.out);clear gM hgrow hnil;go_wp2;go_roundw
          case rel=>exact⟨i+1,by go_num,by omega,by rw[iA.out] <;> first | rfl | go_num,by rw[iA.out] <;> first | rfl | go_num,by rw[iA.out] <;> first | rfl | go_num,hid (by rw[iA.out,HG2.out];exact oO.out)⟩
          case measure=>simp[intOf];omega
       ·skip
        as_aux_lemma =>
         subst h;have kZ:Hid (∀w,Calls prog 41 #[.int .i64 21] w fun e w'=>e=.returned (.bool true)/\w'=w):=hid (fun w=>gG 21 w);have r_:=hid (uJ (base:=q.base) (e:=⟨st,mi,me,op,C,L⟩) HC.out.symm (by decide) pL.out);rw[<-mN.out]at r_;have HG2:=hid (show tV q.K (i+1)=G from MS.out);cases F
         ·have iA:=hid (r_.out.2 HF.out.symm)
          go_wp2_with (first | (go_at_call 41;refine(kZ.out _).mono ?_;rintro e' w' ⟨rfl,rfl⟩) | (go_at_call 84;refine(lM q C L G i lv ov l7 _ ?_ hlt hn).mono ?_;exact m8.out.ps;rintro e' w' ⟨rfl,hp,hf⟩));have AG:=hid (m8.out.at (e:=⟨st,mi,me,op,C,L⟩) Ot.out JA.out qM.out hp hf);clear hp hf;go_wp2;go_roundw
          case rel=>exact⟨i+1,by go_num,by omega,by rw[iA.out] <;> first | rfl | go_num,by rw[iA.out] <;> first | rfl | go_num,by rw[iA.out] <;> first | rfl | go_num,hid (by rw[iA.out,HG2.out];exact AG.out)⟩
          case measure=>simp[intOf];omega
         ·have iA:=hid (r_.out.1 HF.out.symm)
          go_wp2_with (first | (go_at_call 41;refine(kZ.out _).mono ?_;rintro e' w' ⟨rfl,rfl⟩) | (go_at_call 84;refine(lM q C L G i lv ov l7 _ ?_ hlt hn).mono ?_;exact m8.out.ps;rintro e' w' ⟨rfl,hp,hf⟩;have AG:=hid (m8.out.at (e:=⟨st,mi,me,op,C,L⟩) Ot.out JA.out qM.out hp hf);have CD:=AG.out.os;rw[<-HN.out]at CD;have QK:=hid CD;have abe:=AG.out.fr.size;clear hp hf CD) | (at_builtin;refine eV _ rfl _ _ 150 rfl w.heap.size 149 i0 _ 3 24 underlying150 hi hz0 hz1 hz2 rfl (by decide) _ n (jL st) rfl ?own _ 1 1 [.int .i64 nx,.int .i64 (-1),.bool true] rfl rfl (iC _ _ _ _ (by simp)) (qO _ _ _) (by unfold maxLen;omega) (by omega) ?nY ?_))
          case own=>exact fS QK.out ((Fr.refl [] _).alloc _)
          case nY=>simp;omega
          intro v' w3 gM hgrow hnil;have oO:=hid (AG.out.push (x:=⟨nx,-1,true⟩) HN.out ((Fr.refl [] _).alloc _) gM hgrow qM.out);clear gM hgrow hnil;go_wp2;go_roundw
          case rel=>exact⟨i+1,by go_num,by omega,by rw[iA.out] <;> first | rfl | go_num,by rw[iA.out] <;> first | rfl | go_num,by rw[iA.out] <;> first | rfl | go_num,hid (by rw[iA.out,HG2.out];exact oO.out)⟩
          case measure=>simp[intOf];omega
       ·skip
        as_aux_lemma =>
         subst h;have kZ:Hid (∀w,Calls prog 41 #[.int .i64 22] w fun e w'=>e=.returned (.bool false)/\w'=w):=hid (fun w=>gG 22 w);have HG2:=hid (show tV q.K (i+1)=G from MS.out);have QL:=hid (TF (base:=q.base) (e:=⟨st,mi,me,op,C,L⟩) HC.out.symm);rw[<-mN.out]at QL;obtain⟨t0,t1,t2⟩:=uZ abd.out HN.out QC.out;rw[<-Ot.out]at t0 t1 t2;dsimp only at t0 t1 t2;by_cases tR:mi=0
         ·subst tR
          by_cases hop:op=0
          ·subst hop
           have iA:=hid (QL.out.2.2 rfl rfl);go_wp2_with (first | (go_at_call 41;refine(kZ.out _).mono ?_;rintro e' w' ⟨rfl,rfl⟩) | (go_at_call 84;refine(lM q C L G i lv ov l7 _ ?_ hlt hn).mono ?_;exact m8.out.ps;rintro e' w' ⟨rfl,hp,hf⟩));have AG:=hid (m8.out.at (e:=⟨st,0,me,0,C,L⟩) Ot.out JA.out qM.out hp hf);clear hp hf;go_wp2;go_roundw
           case rel=>exact⟨i+1,by go_num,by omega,by rw[iA.out] <;> first | rfl | go_num,by rw[iA.out] <;> first | rfl | go_num,by rw[iA.out] <;> first | rfl | go_num,hid (by rw[iA.out,HG2.out];exact AG.out)⟩
           case measure=>simp[intOf];omega
          ·have ako:(0:Int)<(op:Int):=by omega
           have afe:(op:Int) - 1=((op - 1:Nat):Int):=by omega
           have iA:=hid (QL.out.2.1 rfl (by dsimp only;omega));clear t0 t1 t2;go_wp2_with (first | (go_at_call 41;refine(kZ.out _).mono ?_;rintro e' w' ⟨rfl,rfl⟩))
           as_aux_lemma =>
                 go_loopw [2] (fun vs wx=>∃(t:Nat),vs=.slice (some ⟨g,0,none⟩) t cap/\t<=n/\Hid (lS (st.take t).length (st.take t)=lS st.length st)/\Hid (0<mW (st.take t).reverse)/\Hid (EW w wx q C L G (.slice (some ⟨g,0,none⟩) t cap) (st.take t))) (fun vs _=>QH vs)
                 case atStart =>
                  refine⟨n,rfl,ak _,hid ?_,hid ?_,hid ?_⟩
                  ·rw[HN.out,cK]
                  ·rw[HN.out,cK,<-QI.out];omega
                  ·have h:=m8.out
                   rw[HN.out,cK,<-HN.out];exact h
                 case round =>
                  obtain⟨t,rfl,htn,QO,HIS,Tm⟩:=hrel;have htl:(st.take t).length=t:=by rw[aP,<-HN.out];omega
                  have ht0:0<t:=by have:=Ky HIS.out;omega
                  obtain⟨m',hm'⟩:∃m',t=m'+1:=⟨t - 1,by omega⟩;have QR:=Tm.out.os;rw[htl]at QR;have akp:=hid QR;have ahV:=qh QR;obtain⟨s0,s1,s2⟩:=uZ QR htl.symm hm';have AH:=hid (Gd (htl.trans hm'));have hm2:(t:Int) - 1=(m':Int):=by omega
                  have hm3:(m':Int)<(t:Int):=by omega
                  have hm4:(m':Int)<=(cap:Int):=by omega
                  have MT:=hid (show(st.take t).take m'=st.take m' by rw[List.take_take,eB (by omega)]);have HEM:=hid (Tm.out.take htl.symm (show m'<=t by omega));rw[MT.out]at HEM AH;have HIT:=hid (fun h=>Ge (htl.trans hm') h HIS.out);rw[MT.out]at HIT;have Tn:=hid hm';have HTL:=hid htl;clear QR htl hm' s0 s1;cases CE:(top (st.take t)).l7
                  ·rw[CE]at s2
                   have WI:=hid ((AH.out.2 CE).symm.trans QO.out);have HIQ:=hid (HIT.out CE);clear CE AH HIT;go_wp2;go_roundw
                   case rel=>exact⟨m',rfl,by omega,WI,HIQ,HEM⟩
                   case measure=>simp[QH];omega
                  ·rw[CE]at s2
                   have WI:=hid (show lS st.length st=st.take m' by rw[<-QO.out];exact AH.out.1 CE);have WJ:=hid (show qo (st.take m').reverse by rw[<-WI.out];exact Kz X0.out (by rw[<-QI.out];omega));have hml:(st.take m').length=m':=by rw[aP,<-HN.out];omega
                   have hmp:=Fe WJ.out;rw[hml]at hmp;obtain⟨m2,abg⟩:∃m2,m'=m2+1:=⟨m' - 1,by omega⟩;have X4:=HEM.out.os;rw[hml]at X4;obtain⟨r0,r1,r2⟩:=uZ X4 hml.symm abg;have To:=hid (TH WJ.out);obtain⟨T2,hT2⟩:∃T2,T2=top (st.take m'):=⟨_,rfl⟩;rw[<-hT2]at r0 r1 r2;have HT2:=hid hT2;obtain⟨lv2,ov2,afh⟩:=T2;dsimp only at r0 r1 r2;have hk1:(m':Int) - 1=(m2:Int):=by omega
                   have hk2:(m2:Int)<(m':Int):=by omega
                   have abh:=hid (show gK q.K q.base (i+1)=hold ⟨st.take m',0,0,op - 1,C,L⟩ i by rw[iA.out,WI.out]);clear CE AH HIT X4 hT2 abg hml iA;have iA:=abh;clear abh;go_wp2_with (first | (go_at_call 84;refine(lM q C L G i lv2 ov2 afh _ ?_ hlt hn).mono ?_;exact HEM.out.ps;rintro e' w' ⟨rfl,hp,hf⟩));have AG:=hid (HEM.out.at (e:=⟨st.take m',0,0,op - 1,C,L⟩) HT2.out To.out qM.out hp hf);clear hp hf;go_wp2;go_roundw
                   case rel=>exact⟨i+1,by go_num,by omega,by rw[iA.out] <;> first | rfl | go_num,by rw[iA.out] <;> first | rfl | go_num,by rw[iA.out] <;> first | rfl | go_num,hid (by rw[iA.out,HG2.out];exact AG.out)⟩
                   case measure=>simp[intOf];omega
         ·have hmI:(0:Int)<(mi:Int):=by omega
          have hmc:(mi:Int) - 1=((mi - 1:Nat):Int):=by omega
          have iA:=hid (QL.out.1 (by dsimp only;omega));go_wp2_with (first | (go_at_call 41;refine(kZ.out _).mono ?_;rintro e' w' ⟨rfl,rfl⟩) | (go_at_call 84;refine(lM q C L G i lv ov l7 _ ?_ hlt hn).mono ?_;exact m8.out.ps;rintro e' w' ⟨rfl,hp,hf⟩));have AG:=hid (m8.out.at (e:=⟨st,mi - 1,me,op,C,L⟩) Ot.out JA.out qM.out hp hf);clear hp hf;go_wp2;go_roundw
          case rel=>exact⟨i+1,by go_num,by omega,by rw[iA.out] <;> first | rfl | go_num,by rw[iA.out] <;> first | rfl | go_num,by rw[iA.out] <;> first | rfl | go_num,hid (by rw[iA.out,HG2.out];exact AG.out)⟩
          case measure=>simp[intOf];omega
       ·skip
        as_aux_lemma =>
         subst h;have kZ:Hid (∀w,Calls prog 41 #[.int .i64 18] w fun e w'=>e=.returned (.bool false)/\w'=w):=hid (fun w=>gG 18 w);have HG2:=hid (show tV q.K (i+1)=G.set i true from MS.out);have d5:=m8.out.ps.c5;have e6:=m8.out.ps.rG i hlt;have e7:=m8.out.ps.sG i hlt;have nG:=m8.out.ps.I3.1;have zw:=hid (m8.out.gone qM.out hlt);have Ai:=hid (Kx (base:=q.base) (e:=⟨st,mi,me,op,C,L⟩) HC.out.symm);rw[<-mN.out]at Ai;have b2g:(wc.setCell ⟨q.bG,i,none⟩ (.bool true)).cell? ⟨wr.heap.size,2,none⟩=some (.bool l7):=by
          rw[cell_far _ _ _ _ _ _ (by have:=qM.out.2.2.2.2.2.2;omega)];exact b2
         by_cases tR:mi=0
         ·subst tR
          by_cases hme:me=0
          ·subst hme
           have hcap:=qh abd.out;have hmc:(m:Int)<=(cap:Int):=by have:=QC.out;omega
           cases l7
           ·by_cases h1:1<n
            ·have TW:(1:Int)<(n:Int):=by omega
             have iA:=hid (show gK q.K q.base (i+1)=⟨st.take m,0,0,op,C,L⟩ by
                        rw[Ai.out.2.2.1 rfl rfl (by dsimp only;rw[<-Ot.out]) (by dsimp only;rw[<-HN.out];exact h1),<-A3 st m (by rw[<-HN.out];exact QC.out)])
             have ZO:=hid (zw.out.take HN.out (show m<=n by have:=QC.out;omega));go_wp2_with (first | (go_at_call 41;refine(kZ.out _).mono ?_;rintro e' w' ⟨rfl,rfl⟩));go_roundw
             case rel=>exact⟨i+1,by go_num,by omega,by rw[iA.out] <;> first | rfl | go_num,by rw[iA.out] <;> first | rfl | go_num,by rw[iA.out] <;> first | rfl | go_num,hid (by rw[iA.out,HG2.out];exact ZO.out)⟩
             case measure=>simp[intOf];omega
            ·have TW:¬(1:Int)<(n:Int):=by omega
             have h1d:decide ((1:Int)<(n:Int))=false:=aK TW;have iA:=hid (Ai.out.2.2.2 rfl rfl (.inr (by dsimp only;rw[<-HN.out];omega)));go_wp2_with (first | (go_at_call 41;refine(kZ.out _).mono ?_;rintro e' w' ⟨rfl,rfl⟩));go_roundw
             case rel=>exact⟨i+1,by go_num,by omega,by rw[iA.out] <;> first | rfl | go_num,by rw[iA.out] <;> first | rfl | go_num,by rw[iA.out] <;> first | rfl | go_num,hid (by rw[iA.out,HG2.out];exact zw.out)⟩
             case measure=>simp[intOf];omega
           ·have iA:=hid (Ai.out.2.2.2 rfl rfl (.inl (by dsimp only;rw[<-Ot.out])))
            go_wp2_with (first | (go_at_call 41;refine(kZ.out _).mono ?_;rintro e' w' ⟨rfl,rfl⟩));go_roundw
            case rel=>exact⟨i+1,by go_num,by omega,by rw[iA.out] <;> first | rfl | go_num,by rw[iA.out] <;> first | rfl | go_num,by rw[iA.out] <;> first | rfl | go_num,hid (by rw[iA.out,HG2.out];exact zw.out)⟩
            case measure=>simp[intOf];omega
          ·have hmp:(0:Int)<(me:Int):=by omega
           have iA:=hid (Ai.out.2.1 rfl (by dsimp only;omega));have hmc:(me:Int) - 1=((me - 1:Nat):Int):=by omega
           go_wp2_with (first | (go_at_call 41;refine(kZ.out _).mono ?_;rintro e' w' ⟨rfl,rfl⟩));go_roundw
           case rel=>exact⟨i+1,by go_num,by omega,by rw[iA.out] <;> first | rfl | go_num,by rw[iA.out] <;> first | rfl | go_num,by rw[iA.out] <;> first | rfl | go_num,hid (by rw[iA.out,HG2.out];exact zw.out)⟩
           case measure=>simp[intOf];omega
         ·have hmb:((mi:Int) == 0)=false:=by simp;omega
          have FF:¬(mi:Int)=0:=by omega
          have iA:=hid (Ai.out.1 (by dsimp only;omega));go_wp2_with (first | (go_at_call 41;refine(kZ.out _).mono ?_;rintro e' w' ⟨rfl,rfl⟩));go_roundw
          case rel=>exact⟨i+1,by go_num,by omega,by rw[iA.out] <;> first | rfl | go_num,by rw[iA.out] <;> first | rfl | go_num,by rw[iA.out] <;> first | rfl | go_num,hid (by rw[iA.out,HG2.out];exact zw.out)⟩
          case measure=>simp[intOf];omega
       ·skip
        as_aux_lemma =>
         subst h;have kZ:Hid (∀w,Calls prog 41 #[.int .i64 10] w fun e w'=>e=.returned (.bool false)/\w'=w):=hid (fun w=>gG 10 w);have HG2:=hid (show tV q.K (i+1)=G from MS.out);have iA:=hid (mN.out.trans (Wr HC.out.symm));have d3:=m8.out.ps.c3;have d6:=m8.out.ps.c6;have e6:=m8.out.ps.rL i hlt;have e7:=m8.out.ps.sL i hlt;have nL:=m8.out.ps.Ok.1;have hbl:=qM.out.2.2.2.2.2.1;have aks:q.bL<wc.heap.size:=by omega
         have HEL:=hid (m8.out.ps' ⟨qM.out.2.2.2.2.1,qM.out.2.2.2.2.2.1,qM.out.2.2.2.2.2.2⟩ ((Fr.refl _ _).set (b:=q.bL) (i:=i) (by simp) (.int .i64 q.base)) (m8.out.ps.DH hlt q.base));go_wp2_with (first | (go_at_call 41;refine(kZ.out _).mono ?_;rintro e' w' ⟨rfl,rfl⟩));go_region;go_wp2;go_roundw
         case rel=>exact⟨i+1,by go_num,by omega,by rw[iA.out] <;> first | rfl | go_num,by rw[iA.out] <;> first | rfl | go_num,by rw[iA.out] <;> first | rfl | go_num,hid (by rw[iA.out,HG2.out];exact(HEL.out.iS (iD _ _ _ rfl rfl rfl rfl)))⟩
         case measure=>simp[intOf];omega
       ·skip
        as_aux_lemma =>
         subst h;have kZ:Hid (∀w,Calls prog 41 #[.int .i64 9] w fun e w'=>e=.returned (.bool false)/\w'=w):=hid (fun w=>gG 9 w);have HG2:=hid (show tV q.K (i+1)=G.set i true from MS.out);have d5:=m8.out.ps.c5;have e6:=m8.out.ps.rG i hlt;have e7:=m8.out.ps.sG i hlt;have nG:=m8.out.ps.I3.1;have zw:=hid (m8.out.gone qM.out hlt);have iA:=hid (mN.out.trans (O3 HC.out.symm));go_wp2_with (first | (go_at_call 41;refine(kZ.out _).mono ?_;rintro e' w' ⟨rfl,rfl⟩));go_roundw
         case rel=>exact⟨i+1,by go_num,by omega,by rw[iA.out] <;> first | rfl | go_num,by rw[iA.out] <;> first | rfl | go_num,by rw[iA.out] <;> first | rfl | go_num,hid (by rw[iA.out,HG2.out];exact zw.out)⟩
         case measure=>simp[intOf];omega
       ·skip
        as_aux_lemma =>
         obtain⟨hb1,hb2,hb3,hb4,hb5,hb6⟩:=h;have kZ:Hid (∀w,Calls prog 41 #[.int .i64 c] w fun e w'=>e=.returned (.bool false)/\w'=w):=hid (fun w=>by have:=gG c w;rw[hb2]at this;exact this);have iA:=hid (mN.out.trans (Gc (by rw[<-HC.out];exact hb1) (by rw[<-HC.out];exact hb2) (by rw[<-HC.out];exact hb3) (by rw[<-HC.out];exact hb4) (by rw[<-HC.out];exact hb5) (by rw[<-HC.out];exact hb6)));have HG2:=hid (show tV q.K (i+1)=G by rw[MS.out,au];intro hg;unfold begins at hb1;unfold gone at hg;simp at hb1 hg;omega);have hq:¬c=16/\¬c=14/\¬c=17/\¬c=15:=by unfold begins at hb1;simp at hb1;omega
         obtain⟨q1,q2,q3,q4⟩:=hq;have k1:(c == 16)=false:=by simp[q1]
         have k2:(c == 14)=false:=by simp[q2]
         have k3:(c == 17)=false:=by simp[q3]
         have k4:(c == 15)=false:=by simp[q4]
         have k5:(c == 22)=false:=by simp[hb3]
         have k6:(c == 18)=false:=by simp[hb4]
         have k7:(c == 10)=false:=by simp[hb5]
         have k8:(c == 9)=false:=by simp[hb6]
         clear hb1 hb2;go_wp2_with (first | (go_at_call 41;refine(kZ.out _).mono ?_;rintro e' w' ⟨rfl,rfl⟩) | (go_at_call 84;refine(lM q C L G i lv ov l7 _ ?_ hlt hn).mono ?_;exact m8.out.ps;rintro e' w' ⟨rfl,hp,hf⟩));have AG:=hid (m8.out.at (e:=⟨st,mi,me,op,C,L⟩) Ot.out JA.out qM.out hp hf);clear hp hf;go_wp2;go_roundw
         case rel=>exact⟨i+1,by go_num,by omega,by rw[iA.out] <;> first | rfl | go_num,by rw[iA.out] <;> first | rfl | go_num,by rw[iA.out] <;> first | rfl | go_num,hid (by rw[iA.out,HG2.out];exact AG.out)⟩
         case measure=>simp[intOf];omega
  ·have hie:i=q.n:=by omega
   have tH:=hid (show EW w wr q Z.C Z.L ZG _ Z.st by rw[HZ.out,HZG.out,HK.out,<-hie];exact HE.out);clear hie HE;go_wp2;go_end0;exact⟨rfl,tH.out.ps,tH.out.fr⟩
end Go.Proofs.YtnakejhohdbfdaaGreatDoor

import Derived.Test.YtnakejhohdbfdaaGreatDoorVat
set_option maxHeartbeats 8000000
set_option maxRecDepth 10000
set_option linter.unusedSimpArgs false
namespace Go.Proofs.YtnakejhohdbfdaaGreatDoor
open Go.RowKit jN Go.Proofs.Tryz
def iZ:List (Nat × Nat)->List Value
 | []=>[]
 | p :: l=>.int .i64 (p.1:Nat) :: .int .i64 (p.2:Nat) :: iZ l
theorem xh:∀l,(iZ l).length=l.length * 2
 | []=>rfl
 | p :: l=>by simp[iZ,xh l];omega
theorem CF:∀l m,iZ l++iZ m=iZ (l++m)
 | [],m=>rfl
 | p :: l,m=>by simp[iZ,CF l m]
theorem Ak:∀l a,(iZ l).take (a * 2)=iZ (l.take a)
 | [],a=>by simp[iZ]
 | p :: l,0=>rfl
 | p :: l,a+1=>by rw[show(a+1) * 2=a * 2+1+1 by omega];simp[iZ,Ak l a]
theorem Al:∀l a,(iZ l).drop (a * 2)=iZ (l.drop a)
 | [],a=>by simp[iZ]
 | p :: l,0=>rfl
 | p :: l,a+1=>by rw[show(a+1) * 2=a * 2+1+1 by omega];simp[iZ,Al l a]
theorem u_:∀(l:List (Nat × Nat)) (i:Nat),i<l.length->(iZ l)[i * 2]?=some (.int .i64 (((l[i]?).getD (0,0)).1:Nat))/\(iZ l)[i * 2+1]?=some (.int .i64 (((l[i]?).getD (0,0)).2:Nat))
 | [],_,h=>absurd h (by simp)
 | p :: l,0,_=>by simp[iZ]
 | p :: l,i+1,h=>by
   have:=u_ l i (by simp at h;omega);rw[show(i+1) * 2=i * 2+1+1 by omega];simpa[iZ] using this
theorem xm:∀(l:List (Nat × Nat)),∀u∈iZ l,u.oneCell'=true
 | [],u,h=>by simp[iZ]at h
 | p :: l,u,h=>by
   simp only[iZ,bK]at h
   rcases h with rfl | rfl | h
   ·rfl
   ·rfl
   ·exact xm l u h
theorem G3 {w:World}{B B':Nat}{v:Value}{ps:List (Nat × Nat)}(h:w.ownsRow B' 156 2 v ps.length (iZ ps))(hB:B<=B')(h0:ps.length=0->v=.slice none 0 0):QW w B v ps:=by
 refine⟨h0,fun hp=>?_⟩;obtain⟨g,cap,rfl⟩:=fR hp h;refine⟨g,cap,rfl,a_ hB (fZ h).1,fun i hi=>?_⟩;obtain⟨a1,a2⟩:=u_ ps i hi;exact⟨by rw[h.cellAt _ (by omega),a1],by rw[h.cellAt _ (by omega),a2]⟩
theorem G4 (a b:Int):∀u∈[Value.int .i64 a,.int .i64 b],u.oneCell'=true:=by
 intro u hu;simp at hu
 rcases hu with rfl | rfl <;> rfl
theorem qh {w:World}{B g n cap size:Nat}{e:TypeId}{xs:List Value}(h:w.ownsRow B e size (.slice (some ⟨g,0,none⟩) n cap) n xs):n<=cap:=by
 rcases h.2 with⟨h0,_⟩ | ⟨g',cap',cur,hv,hg,hh,hn,_⟩
 ·cases h0
 ·cases hv;exact hn
theorem QZ {w:World}{B g n cap:Nat}{out:List (Nat × Nat)}(h:w.ownsRow B 156 2 (.slice (some ⟨g,0,none⟩) n cap) n (iZ out))(a:Nat):∀j u,(iZ (out.take a))[j]?=some u->w.cell? ((⟨g,0,none⟩:Addr).add j)=some u:=by
 intro j u hu;rw[<-Ak,List.getElem?_take]at hu;split at hu
 ·exact h.cells rfl j u hu
 ·cases hu
theorem Q0 {w:World}{B g n cap:Nat}{out:List (Nat × Nat)}(h:w.ownsRow B 156 2 (.slice (some ⟨g,0,none⟩) n cap) n (iZ out))(a:Nat):∀j u,(iZ (out.drop a))[j]?=some u->w.cell? ((⟨g,a * 2,none⟩:Addr).add j)=some u:=by
 intro j u hu;rw[<-Al,b_]at hu;have:=h.cells rfl (a * 2+j) u hu;rw[Addr.add_lit]at this ⊢
 rwa [c_]at this
structure PW (W wr:World)(vR xq:Value)(st:List Nat)(out:List (Nat × Nat)):Prop where
 fr:Fr [] W wr
 os:wr.ownsRow W.heap.size 3 1 vR st.length (gz st)
 oo:wr.ownsRow W.heap.size 156 2 xq out.length (iZ out)
 nl:out.length=0->xq=.slice none 0 0
theorem PW.iS {W wr w':World}{vR xq:Value}{st:List Nat}{out:List (Nat × Nat)}(h:PW W wr vR xq st out)(hf:Fr [] wr w'):PW W w' vR xq st out :=
 ⟨h.fr.trans hf,fS h.os hf,fS h.oo hf,h.nl⟩
theorem PW.push {W wr w1 w':World}{vR xq v':Value}{st:List Nat}{out:List (Nat × Nat)}{k:Nat}(h:PW W wr vR xq st out)(hf:Fr [] wr w1)(ho:w'.ownsRow W.heap.size 3 1 v' (st.length+1) (gz st++[.int .i64 (k:Nat)]))(hg:w1.grownBy w' vR.ownBlock):PW W w' v' xq (st++[k]) out:=by
 have h1:=h.iS hf;refine⟨h1.fr.grown hg (fun x hx=>(h1.os.lt x hx).1),?_,iF h1.oo hg (fun g hg' e=>?_),h.nl⟩
 ·rw[<-oz,aG];exact ho
 ·exact iT h1.oo h1.os (by decide) hg' e.symm rfl
theorem PW.ins {W wr w3:World}{g1 c1 n no t a x k:Nat}{xq v3:Value}{st:List Nat}{out:List (Nat × Nat)}(h:PW W wr (.slice (some ⟨g1,0,none⟩) n c1) xq st out)(hn:n=st.length)(hno:no=out.length)(hf:Fr [] wr w3)(ht:t<=n)(ha:a<=no)
 (ho:w3.ownsRow wr.heap.size 156 2 v3 (a+1+(no - a)) (iZ (out.take a)++.int .i64 (x:Nat) :: .int .i64 (k:Nat) :: iZ (out.drop a))) (hp:su (x,k) out=out.take a++(x,k) :: out.drop a):PW W w3 (.slice (some ⟨g1,0,none⟩) t c1) v3 (st.take t) (su (x,k) out):=by
 have h1:=h.iS hf;have hl:(su (x,k) out).length=a+1+(no - a):=by rw[Bo];omega
 refine⟨h1.fr,?_,?_,fun h0=>by omega⟩
 ·have hos:=h1.os
  rw[<-hn]at hos;have:=pH hos ht;rw[BJ]at this;rw[aP,<-hn,eB ht];exact this
 ·rw[hl,hp,<-CF]
  exact gY ho h.fr.size
theorem PW.shape {W wr:World}{vR xq:Value}{st:List Nat}{out:List (Nat × Nat)}(h:PW W wr vR xq st out) :
 ∃a1 c1 a2 c2,vR=.slice a1 st.length c1/\xq=.slice a2 out.length c2:=by
 obtain⟨a1,c1,e1⟩:=gA h.os;obtain⟨a2,c2,e2⟩:=gA h.oo;exact⟨a1,c1,a2,c2,e1,e2⟩
theorem MX (q:PH)(C L:List Int)(G:List Bool)(bI cI:Nat)(s:Sq)(w:World)(hs:PS w q C L G)(hI:IS w q bI s.I)(h0:0<s.I.length) :
 Calls prog 91 #[.pointer (some ⟨q.p,0,none⟩),Ee bI cI s] w fun e w'=>∃v,e=.returned v/\QW w' w.heap.size v (gF q.R s.I C s.I.length).out/\Fr [] w w':=by
 have sm:=hI.sm;obtain⟨Z,hZ⟩:∃Z,Z=(gF q.R s.I C s.I.length).out:=⟨_,rfl⟩;have HZ:=hid hZ;rw[<-hZ];obtain⟨m,hm⟩:∃m,m=s.I.length:=⟨_,rfl⟩;have HM:=hid hm;have HV:=hid (show Ee bI cI s=.agg #[.slice (some ⟨bI,0,none⟩) m cI,.int .i64 s.own,.int .i64 s.iq,.int .i64 s.jR] by rw[hm]);rw[HV.out];rw[<-hm]at sm h0;obtain⟨i0,hi,hz0,hz1,hz2⟩:=e_ info3;obtain⟨i1,hi1,hy0,hy1,hy2⟩:=e_ TI;obtain⟨W,hW⟩:∃W,W=w.alloc (.cells #[.slice (some ⟨bI,0,none⟩) m cI,.int .i64 s.own,.int .i64 s.iq,.int .i64 s.jR] 101):=⟨_,rfl⟩;have WH:=hid (show Fr [] w W by rw[hW];exact(Fr.refl _ w).alloc _);have Ip:=hid (show PS W q C L G by rw[hW];exact hs.alloc _);have HIS:=hid (show IS W q bI s.I by rw[hW];exact hI.fr (S:=[]) ((Fr.refl _ w).alloc _) af);have X5:=hid (show kB W w.heap.size bI m cI s.own s.iq s.jR by rw[hW];exact fun j v hv=>by rw[eZ _ _ _ _ rfl];exact hv);have ZR:=hid (show W.heap.size=w.heap.size+1 by rw[hW];simp);have HW:=hid hW
 have afk:=hid (show PW W W (.slice none 0 0) (.slice none 0 0) [] []from
  ⟨Fr.refl _ _,eY _ _ _ _,eY _ _ _ _,fun _=>rfl⟩)
 have hlp:=hs.lt;clear hm hZ hs hI HV hW;go_enter func91,ntmps91;go_wp2;go_loopw [5,6,7] (fun vR xq kk wr=>∃(k:Nat),kk=.int .i64 k/\k<=m/\Hid ((gF q.R s.I C k).stop=false)/\Hid (PW W wr vR xq (gF q.R s.I C k).st (gF q.R s.I C k).out)) (fun _ _ kk _=>m - (intOf kk).toNat)
 case atStart=>exact⟨0,rfl,aH _,hid rfl,by rw[<-HW.out];exact afk⟩
 case round =>
  obtain⟨k,rfl,hk,HST,HP⟩:=hrel;have hinv:=uF q.R s.I C k;have UQ:=hid (Ip.out.iS HP.out.fr);have afl:=hid (HIS.out.fr HP.out.fr af);have afm:=hid (X5.out.fr HP.out.fr af);have x0:=afm.out 0 _ rfl;have d2:=UQ.out.c2;have d0:=UQ.out.c0;have hsz:=HP.out.fr.size;by_cases hkm:k<m
  ·obtain⟨hi',e1,e2,e3,e4⟩:=pq UQ.out afl.out (Fr.refl _ _) (show k<s.I.length by rw[<-HM.out];omega)
   have e5:=UQ.out.rR _ hi';have oC:=hid (wF q.R s.I C k (gF q.R s.I C k) HST.out);have mN:=hid (show gF q.R s.I C (k+1)=jh q.R s.I C k (gF q.R s.I C k)from rfl);rw[<-mN.out]at oC;have oh:=hid hinv;have abl:=hinv.ln8;have hol:=hinv.len;clear hinv e3 e4 mN;generalize gF q.R s.I C k=P at *;obtain⟨a1,c1,a2,c2,hv1,hv2⟩:=HP.out.shape;dsimp only[cl]at oC;generalize fX s.I k=i at *;generalize nth C i=y at *;generalize nth q.R i=r at *;by_cases abm:y=13
   ·subst abm
    cases hop:opens r
    ·rw[hop]at oC
     have Q1:Hid (∀w,Calls prog 160 #[.int .i32 r] w fun e w'=>e=.returned (.int .i32 0)/\w'=w):=hid (fun w=>by have:=D_ r w;rw[hop]at this;simpa using this);have Q2:Hid (∀w,Calls prog 161 #[.int .i32 r] w fun e w'=>e=.returned (.int .i32 (shuts r))/\w'=w):=hid (fun w=>Ea r w);clear hop;generalize shuts r=c at *;by_cases hc0:c=0
     ·subst hc0
      have HN:=hid (oC.out.2.2.2.1 rfl rfl rfl);clear hv1 hv2;go_wp2;go_quiet (fail);go_wp2;go_quiet (fail);go_wp2_with (first | (go_at_call 160;refine(Q1.out _).mono ?_;rintro e w' ⟨rfl,rfl⟩) | (go_at_call 161;refine(Q2.out _).mono ?_;rintro e w' ⟨rfl,rfl⟩));go_roundw
      case rel=>exact⟨k+1,by go_num,by omega,hid (by rw[HN.out];exact HST.out),hid (by rw[HN.out];exact HP.out.iS (iD _ _ _ rfl rfl rfl rfl))⟩
      case measure=>simp[intOf];omega
     ·obtain⟨n,hn⟩:∃n,n=P.st.length:=⟨_,rfl⟩
      rw[<-hn]at hv1 abl;have iA:=hid hn;have hsx:=oh.out.st;have ZF:=hid hsx;clear hn hsx;obtain⟨no,hno⟩:∃no,no=P.out.length:=⟨_,rfl⟩;rw[<-hno]at hv2 hol;have zi:=hid hno;subst hv1;subst hv2;clear hno;have Ep:=hid (oC.out.2.2.2.2.1 rfl rfl hc0);have iy:=hid (fun j=>oC.out.2.2.2.2.2 j rfl rfl hc0);clear oC;go_wp2;go_quiet (fail);go_wp2;go_quiet (fail);go_wp2_with (first | (go_at_call 160;refine(Q1.out _).mono ?_;rintro e w' ⟨rfl,rfl⟩) | (go_at_call 161;refine(Q2.out _).mono ?_;rintro e w' ⟨rfl,rfl⟩));clear x0 d2 d0 e1 e2 e5;go_loopw [5,6,11] (fun afn abn jj wx=>∃(t:Nat),afn=.slice a1 n c1/\abn=.slice a2 no c2/\jj=.int .i64 ((t:Int) - 1)/\t<=n/\Hid (lT q.R s.I P.st c n=lT q.R s.I P.st c t)/\Hid (PW W wx (.slice a1 n c1) (.slice a2 no c2) P.st P.out)) (fun _ _ jj _=>(intOf jj+1).toNat)
      case atStart=>exact⟨n,rfl,rfl,by go_num,ak _,hid rfl,hid (HP.out.iS (iD _ _ _ rfl rfl rfl rfl))⟩
      case round =>
          obtain⟨t,rfl,rfl,rfl,htn,UK,UR⟩:=hrel;have X6:=hid (Ip.out.iS UR.out.fr);have UT:=hid (HIS.out.fr UR.out.fr af);have afo:=hid (X5.out.fr UR.out.fr af);have x0:=afo.out 0 _ rfl;have d0:=X6.out.c0
          rcases t with _ | t
          ·have HN:=hid (Ep.out (by rw[<-iA.out];exact UK.out))
           go_wp2;go_roundw
           case rel=>exact⟨k+1,by go_num,by omega,hid (by rw[HN.out];exact HST.out),hid (by rw[HN.out];exact UR.out)⟩
           case measure=>simp[intOf];omega
          ·have hc:((t+1:Nat):Int) - 1=(t:Int):=by omega
           rw[hc];have XZ:=hid (show wr.ownsRow W.heap.size 3 1 (.slice a1 n c1) n (gz P.st) by have:=UR.out.os;rw[<-iA.out]at this;exact this);obtain⟨g1,akx,hsh⟩:=fR (by omega) XZ.out;cases hsh;have f1:=jJ XZ.out iA.out.symm t (by omega);have hxk:=ZF.out (fX P.st t) (by rw[gZ (show t<P.st.length by rw[<-iA.out];omega)];exact aT _);obtain⟨hi2,e1,e2,e3,e4⟩:=pq X6.out UT.out (Fr.refl _ _) (show fX P.st t<s.I.length by rw[<-HM.out];omega);have e5:=X6.out.rR _ hi2;have HFS:=hid (show lT q.R s.I P.st c (t+1)=if nth q.R (fX s.I (fX P.st t))=c then some t else lT q.R s.I P.st c t from rfl);have HND:=hid (iy.out t);clear e2 e3 e4;generalize hx:fX P.st t=x at *;have HX:=hid hx;clear hx;generalize fX s.I x=ix at *;generalize nth q.R ix=rx at *;by_cases hrc:rx=c
           ·have HN:=hid (HND.out (by rw[<-iA.out];exact UK.out.trans (HFS.out.trans (ay hrc))))
            subst hrc;have hn0:0<n:=by omega
            have T5:(t:Int)<(n:Int):=by omega
            clear UK HFS HND Ep iy;go_wp2;go_quiet (fail);go_wp2;clear x0 d0 e1 e5 f1;go_loopw [12] (fun aa wy=>∃(a:Nat),aa=.int .i64 a/\a<=no/\Hid (∀t,t<a->((P.out[t]?).getD (0,0)).1<x)/\Hid (PW W wy (.slice (some ⟨g1,0,none⟩) n c1) (.slice a2 no c2) P.st P.out)) (fun aa _=>no - (intOf aa).toNat)
            case atStart=>exact⟨0,rfl,aH _,hid (fun t ht=>absurd ht (bE _)),hid (UR.out.iS (iD _ _ _ rfl rfl rfl rfl))⟩
            case round =>
             obtain⟨a,rfl,han,Il,ZS⟩:=hrel;have X7:=hid (show wr.ownsRow W.heap.size 3 1 (.slice (some ⟨g1,0,none⟩) n c1) n (gz P.st) by have:=ZS.out.os;rw[<-iA.out]at this;exact this);have FI:=hid (show wr.ownsRow W.heap.size 156 2 (.slice a2 no c2) no (iZ P.out) by have:=ZS.out.oo;rw[<-zi.out]at this;exact this);have f1:wr.cell? ⟨g1,t,none⟩=some (.int .i64 (fX P.st t:Nat)):=jJ X7.out iA.out.symm t (by omega);rw[HX.out]at f1;have hex:(a<no/\((P.out[a]?).getD (0,0)).1<x)\/(0<no/\(a<no->¬((P.out[a]?).getD (0,0)).1<x))\/(no=0/\a=0):=by omega
             obtain⟨hal,hlx⟩ | ⟨afq,hge⟩ | ⟨afr,ha0⟩:=hex
             ·obtain⟨g2,cap2,FE⟩:=fR (by omega) FI.out
              cases FE;have f2:wr.cell? ⟨g2,a * 2,none⟩=some (.int .i64 (((P.out[a]?).getD (0,0)).1:Nat)):=by rw[FI.out.cellAt _ (by omega)];exact(u_ P.out a (by rw[<-zi.out];exact hal)).1
              have HLA:=hid hlx;obtain⟨z,hz⟩:∃z,z=((P.out[a]?).getD (0,0)).1:=⟨_,rfl⟩;rw[<-hz]at f2 hlx;clear hz;have haI:(a:Int)<(no:Int):=by omega
              have hzI:(z:Int)<(x:Int):=by omega
              go_wp2;go_quiet (fail);go_wp2;go_roundw
              case rel=>exact⟨a+1,by go_num,by omega,hid (fun t' ht'=>by rcases Nat.lt_succ_iff_lt_or_eq.1 ht' with h | h;exact Il.out t' h;subst h;exact HLA.out),hid (ZS.out.iS (iD _ _ _ rfl rfl rfl rfl))⟩
              case measure=>simp[intOf];omega
             ·obtain⟨g2,cap2,FE⟩:=fR afq FI.out
              cases FE;have Dy:=hid (IY (x,k) P.out a Il.out (by rw[<-zi.out];exact han) (by rw[<-zi.out];exact hge));have hf2:a<no->wr.cell? ⟨g2,a * 2,none⟩=some (.int .i64 (((P.out[a]?).getD (0,0)).1:Nat)):=fun hal=>by rw[FI.out.cellAt _ (by omega)];exact(u_ P.out a (by rw[<-zi.out];exact hal)).1
              have htl:(P.out.take a).length=a:=by rw[aP,<-zi.out];omega
              have hdl:(P.out.drop a).length=no - a:=by rw[bu,<-zi.out]
              have HTL:=hid htl;have HDL:=hid hdl;have hcap:=qh FI.out;have hcap1:=qh X7.out;have haI:(a:Int)<=(no:Int):=by omega
              have akB:(a:Int)<=(c2:Int):=by omega
              have afs:(t:Int)<=(c1:Int):=by omega
              clear htl hdl;by_cases hal:a<no
              case' pos =>
               have f2:=hf2 hal;have hzx:=hge hal;generalize ((P.out[a]?).getD (0,0)).1=z at *;have hzI:¬(z:Int)<(x:Int):=by omega
               have hzd:decide ((z:Int)<(x:Int))=false:=aK hzI
              case' neg =>
               have hnI:¬(a:Int)<(no:Int):=by omega
               have hnd:decide ((a:Int)<(no:Int))=false:=aK hnI
              all_goals (
               clear hf2 hge
               go_wp2
               go_quiet (fail)
               go_wp2_with (at_builtin;refine eV _ rfl _ _ 153 rfl wr.heap.size 156 i1 _ 2 16 underlying153 hi1 hy0 hy1 hy2 rfl (by decide) _ 0 [] rfl (eY _ _ _ _) _ a _ (iZ (P.out.take a)) rfl (by rw[xh,HTL.out]) ?cc (xm _) (by unfold maxLen;omega) (by omega) ?nY ?_)
               case cc=>exact QZ (fS FI.out (iD _ _ _ rfl rfl rfl rfl)) a
               case nY=>simp
               intro v1 w1 og WL afu
               have iy:=hid (((Fr.refl [] wr).drewN _).grown WL (fun k h=>by cases h))
               try simp only[c_,bU]at og
               have kT:=hid og
               clear og WL afu
               have f3:=iy.out.cell f1 af
               go_wp2_with (at_builtin;refine eV _ rfl _ _ 153 rfl wr.heap.size 156 i1 _ 2 16 underlying153 hi1 hy0 hy1 hy2 rfl (by decide) _ a (iZ (P.out.take a)) rfl ?own _ 1 _ [.int .i64 x,.int .i64 k] rfl rfl (wH _ _ _) (G4 _ _) (by unfold maxLen;omega) (by omega) ?nY ?_)
               case own=>exact fS kT.out ((Fr.refl [] w1).alloc _)
               case nY=>have:=iy.out.size;simp;omega
               intro v2 w2 mM G5 X8
               have f_:=hid ((iy.out.alloc _).grown G5 (fun k h=>(kT.out.lt k h).1))
               have iG:=hid mM
               have hs2:=f_.out.size
               clear mM G5 X8
               by_cases hca:c2=a
               all_goals (
                go_wp2_with (at_builtin;refine eV _ rfl _ _ 153 rfl wr.heap.size 156 i1 _ 2 16 underlying153 hi1 hy0 hy1 hy2 rfl (by decide) _ (a+1) (iZ (P.out.take a)++[.int .i64 x,.int .i64 k]) rfl ?own _ (no - a) _ (iZ (P.out.drop a)) rfl (by rw[xh,HDL.out]) ?cc (xm _) (by unfold maxLen;omega) (by omega) ?nY ?_)
                case own=>exact iG.out
                case cc=>first | (have hdr:P.out.drop a=[]:=List.drop_eq_nil_iff.2 (by rw[<-zi.out];omega);rw[hdr];intro j u hj;cases hj) | exact Q0 (fS FI.out f_.out) a
                case nY=>exact hs2
                intro v3 w3 gM Am Q3
                have iO:=hid (f_.out.grown Am (fun k h=>(iG.out.lt k h).1))
                have oO:=hid (ZS.out.ins iA.out zi.out iO.out (bZ htn) han gM Dy.out)
                clear gM Am Q3
                go_wp2
                go_roundw
                case rel=>exact⟨k+1,by go_num,by omega,hid (by rw[HN.out];exact HST.out),hid (by rw[HN.out];exact oO.out)⟩
                case measure=>simp[intOf];omega)
              )
             ·subst ha0
              subst afr;have hnil:Value.slice a2 0 c2=.slice none 0 0:=ZS.out.nl zi.out.symm;cases hnil;have hcap1:=qh X7.out;have afs:(t:Int)<=(c1:Int):=by omega
              have Dy:=hid (IY (x,k) P.out 0 Il.out (aH _) (by rw[<-zi.out];exact fun h=>absurd h (Nat.lt_irrefl _)));have HOE:=hid (show P.out=[]from dX.1 zi.out.symm);go_wp2;go_quiet (fail)
              go_wp2_with (first
               | (at_builtin;refine wpList_append_own_none rfl _ _ 153 rfl wr.heap.size 156 i1 2 underlying153 hi1 _ 0 [] rfl (eY _ _ _ _) rfl ?_)
               | (at_builtin;refine eV _ rfl _ _ 153 rfl wr.heap.size 156 i1 _ 2 16 underlying153 hi1 hy0 hy1 hy2 rfl (by decide) _ 0 [] rfl (eY _ _ _ _) _ 1 _ [.int .i64 x,.int .i64 k] rfl rfl (wH _ _ _) (G4 _ _) (by unfold maxLen;omega) (by omega) ?nY ?_))
              case nY=>simp
              intro v2 w2 mM G5 X8;have f_:=hid ((((Fr.refl [] wr).drewN _).alloc _).grown G5 (fun k h=>by cases h))
              try simp only[c_,bU]at mM
              have iG:=hid mM;clear mM G5 X8;have oO:=hid (ZS.out.ins iA.out zi.out f_.out (bZ htn) (ak _) (by rw[HOE.out];exact iG.out) Dy.out);go_wp2_with (at_builtin;refine wpList_append_own_none rfl _ _ 153 rfl wr.heap.size 156 i1 2 underlying153 hi1 _ 1 [.int .i64 x,.int .i64 k] rfl iG.out rfl ?_);go_roundw
              case rel=>exact⟨k+1,by go_num,by omega,hid (by rw[HN.out];exact HST.out),hid (by rw[HN.out];exact oO.out)⟩
              case measure=>simp[intOf];omega
           ·skip
            have afv:=hid (UK.out.trans (HFS.out.trans (au hrc)));clear UK HFS HND;go_wp2;go_quiet (fail);go_wp2;go_roundw
            case rel=>exact⟨t,rfl,rfl,by go_num,by omega,afv,hid (UR.out.iS (iD _ _ _ rfl rfl rfl rfl))⟩
            case measure=>simp[intOf]
    ·skip
     obtain⟨hsh,hr0⟩:=Gb hop;rw[hop]at oC;have Q1:Hid (∀w,Calls prog 160 #[.int .i32 r] w fun e w'=>e=.returned (.int .i32 r)/\w'=w):=hid (fun w=>by have:=D_ r w;rw[hop]at this;simpa using this);have Q2:Hid (∀w,Calls prog 161 #[.int .i32 r] w fun e w'=>e=.returned (.int .i32 0)/\w'=w):=hid (fun w=>by have:=Ea r w;rw[hsh]at this;exact this);clear hop hsh hv2;obtain⟨n,hn⟩:∃n,n=P.st.length:=⟨_,rfl⟩;rw[<-hn]at hv1 abl;have iA:=hid hn;subst hv1;clear hn;by_cases h8:n=8
     ·have HN:=hid (oC.out.2.1 rfl rfl (by rw[<-iA.out,h8]))
      have HZZ:=hid (show Z=P.out by
          have:=wE q.R s.I C (k+1) (by rw[HN.out]) (m - (k+1))
          rw[show k+1+(m - (k+1))=m by omega]at this
          rw[HZ.out,<-HM.out,this,HN.out])
      subst h8;go_wp2;go_quiet (fail);go_wp2;go_quiet (fail);go_wp2_with (first | (go_at_call 160;refine(Q1.out _).mono ?_;rintro e w' ⟨rfl,rfl⟩) | (go_at_call 161;refine(Q2.out _).mono ?_;rintro e w' ⟨rfl,rfl⟩));go_ret;exact⟨_,rfl,by rw[HZZ.out];exact G3 (fS HP.out.oo (iD _ _ _ rfl rfl rfl rfl)) (by rw[ZR.out];omega) HP.out.nl,WH.out.trans (HP.out.fr.trans (iD _ _ _ rfl rfl rfl rfl))⟩
     ·have HN:=hid (oC.out.2.2.1 rfl rfl (by rw[<-iA.out];exact h8))
      have XZ:=hid (show wr.ownsRow W.heap.size 3 1 (.slice a1 n c1) n (gz P.st) by have:=HP.out.os;rw[<-iA.out]at this;exact this);go_wp2;go_quiet (fail);go_wp2;go_quiet (fail)
      go_wp2_with (first
          | (go_at_call 160;refine(Q1.out _).mono ?_;rintro e w' ⟨rfl,rfl⟩)
          | (go_at_call 161;refine(Q2.out _).mono ?_;rintro e w' ⟨rfl,rfl⟩)
          | (at_builtin;refine eV _ rfl _ _ 22 rfl W.heap.size 3 i0 _ 1 8 underlying22 hi hz0 hz1 hz2 rfl (by decide) _ n (gz P.st) rfl ?own _ 1 1 [.int .i64 k] rfl rfl (cell_one_new _ _ _) (one_cell _) (by unfold maxLen;omega) (by omega) ?nY ?_))
      case own=>exact fS XZ.out (((Fr.refl [] wr).drewN _).alloc _)
      case nY=>simp;omega
      intro v' w3 gM hgrow hnil;have oO:=hid (HP.out.push (((Fr.refl [] wr).drewN _).alloc _) (by rw[<-iA.out];exact gM) hgrow);clear gM hgrow hnil;go_wp2;go_roundw
      case rel=>exact⟨k+1,by go_num,by omega,hid (by rw[HN.out];exact HST.out),hid (by rw[HN.out];exact oO.out)⟩
      case measure=>simp[intOf];omega
   ·skip
    have HN:=hid (oC.out.1 abm);clear hv1 hv2;go_wp2;go_quiet (fail);go_wp2;go_roundw
    case rel=>exact⟨k+1,by go_num,by omega,hid (by rw[HN.out];exact HST.out),hid (by rw[HN.out];exact HP.out.iS (iD _ _ _ rfl rfl rfl rfl))⟩
    case measure=>simp[intOf];omega
  ·have hke:k=m:=by omega
   have HZZ:=hid (show Z=(gF q.R s.I C k).out by rw[HZ.out,hke,HM.out]);clear hke hinv;generalize gF q.R s.I C k=P at *;go_wp2;go_ret;exact⟨_,rfl,by rw[HZZ.out];exact G3 HP.out.oo (by rw[ZR.out];omega) HP.out.nl,WH.out.trans HP.out.fr⟩
end Go.Proofs.YtnakejhohdbfdaaGreatDoor

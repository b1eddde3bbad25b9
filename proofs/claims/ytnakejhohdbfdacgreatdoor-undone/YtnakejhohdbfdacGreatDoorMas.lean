import Derived.Test.YtnakejhohdbfdacGreatDoorMar
import Derived.Deep.RegionHeld
set_option maxHeartbeats 8000000
set_option maxRecDepth 10000
set_option linter.unusedSimpArgs false
namespace Go.Proofs.YtnakejhohdbfdacGreatDoor
open Go.RowKit j9 Go.Maps Go.Proofs.Tryz
theorem PZ (q:UH)(C L:List Int)(P cU mb nm:Nat)(lv:Int)(D:DataW Unit)(w:World)(hu:US w q C L)(hq:QM w q P cU mb nm lv D)(hK:q.K.length=q.n)(hn:q.n<=1000000)(hn0:0<q.n)(hL:∀i,0<=nth L i)
 (hfl:∀a b:List Nat,jw a<q.K.length->follows q.K a b=true->nth L (iV b)=nth L (jw a)) :
 Calls prog 138 #[.pointer (some ⟨P,0,none⟩)] w fun e w'=>∃v gs B,e=.returned v/\AL w' B q.U v gs/\AJ q.K L lv gs (pI q.K (jC q.K L q.K.length))/\w.heap.size<=B/\Fr [] w w':=by
 obtain⟨i1,hi1,hy0,hy1,hy2⟩:=fY TR;have hmm:=@run_makeMap prog;have HU:=hid hu;have HQ:=hid hq;have Co:q.U<w.heap.size:=fC _ _ (hu.r 0 hn0);have za:P<w.heap.size:=fC _ _ hq.s.c0;have Ea:=hid (PL q C L P cU lv w hu hq.s hK hn hn0);have Tt:=hid (pL q.K L q.K.length);have P4:=hid (sH q.K L);have HSH:=hid (wP q.K L q.K.length);have HDV:=hid (xF (sH q.K L));have Fv:=hid (zn (pL q.K L q.K.length) (sH q.K L) hfl);have HL:=hid hL;have HK:=hid hK;generalize jC q.K L q.K.length=rs at *;clear hu hq hK hL hfl;go_enter func138,ntmps138;go_wp2_with (first | (go_at_call 172;refine Ea.out.mono ?_;rintro e wB ⟨v,rfl,ls,hs,B0,hrp,hlv⟩;obtain⟨a1,c1,hv1⟩:=iW hrp.own;obtain⟨n,hn'⟩:∃n,n=rs.length:=⟨_,rfl⟩;rw[<-hn']at hv1;subst hv1;have SC:=hid hrp;have NR:=hid hlv;have HN:=hid hn';have hsh:=HSH.out.1;rw[<-hn',HK.out]at hsh;have hnb:n<=1000000:=(by omega);have hBw:=hrp.fr.size;clear hrp hlv hn' hsh));go_loopw [4,17] (fun v a wr=>∃(k:Nat) (gs:List SD) (D':DataW Unit),a=.int .i64 k/\k<=n/\Hid (AL wr wB.heap.size q.U v gs)/\Hid (AJ q.K L lv gs (jL q.K rs k).all)/\Hid (wr.ownsMap prog 3 (plainElem prog 3) wB.heap.size k D')/\Hid (tU D' (jL q.K rs k).aw)/\Hid (Fr [] wB wr)) (fun _ a _=>n - (intOf a).toNat)
 case atStart=>exact⟨0,[],_,rfl,aN _,hid (AL.start _ _ _),hid ⟨rfl,fun x hx=>by simp at hx⟩,hid (iE _ _ _ _),hid z7,hid ((Fr.refl _ _).alloc _)⟩
 case round =>
  obtain⟨k,gs,D',rfl,hk,HA,HG,HM,HI,HF⟩:=hrel;by_cases hlt:k<n
  ·have hkr:k<rs.length:=by rw[<-HN.out];exact hlt
   have hown:=SC.out.own;rw[<-HN.out]at hown;obtain⟨o,cap,XN⟩:=iQ (by omega) hown;cases XN;have aaP:=hid (SC.out.oN HF.out);obtain⟨g,c,Ib,hh2,hh3⟩:=SC.out.row (fun j hj=>P4.out.ne j hj) hkr;have hcl:=aaP.out.cells HN.out hlt;have k1:=hcl.1;have k2:=hcl.2;rw[Ib]at k2;have HH1:=hid Ib;have HH3:=hid hh3;have HR3:=hid (iM hh3 HF.out);have hr0:=bW.2 (P4.out.ne k hkr);have hrl:(run rs k).length<=1000000:=by have h5:=HSH.out.2 _ (mS hkr);rw[HK.out]at h5;omega
   have p0:=nF HR3.out rfl 0 hr0;have HFN:=hid (show iP (run rs k) 0=iV (run rs k)from rfl);have hol:=fC _ _ k1;have hgl:=fC _ _ p0;dsimp only at hol hgl;have wX:(k:Int)<(n:Int):=by omega
   have hwl:=HF.out.size;have P5:=hid (P4.out.mem hkr (lH (P4.out.ne k hkr)));have V5:=hid (NR.out k hkr);obtain⟨l,hl⟩:∃l,l=(run rs k).length:=⟨_,rfl⟩;rw[<-hl]at k2 hr0 hrl;have Ia:=hid hl;have hl0:(0:Int)<(l:Int):=by omega
   generalize hx0:iP (run rs k) 0=x0 at *;have aiB:x0<=1000000:=by have h5:=P5.out.1;rw[HK.out,<-HFN.out]at h5;omega
   generalize hyk:nth ls k=yk at *;have HYK:=hid hyk;clear hown hcl Ib hh3 hl hx0 hyk hkr;have XS:=hid (HI.out.2 x0);have TO:=HM.out.lt;obtain⟨X,hX⟩:∃X,X=way (max yk (if mh (nth q.K (jw (run rs k)))then lv else qx ls n lv ((k:Int)+1))):=⟨_,rfl⟩;have HX:=hid hX;obtain⟨Y,hY⟩:∃Y,Y=way (max yk (qx ls n lv ((k:Int) - 1))):=⟨_,rfl⟩;have HY:=hid hY;obtain⟨bx,hbx⟩:∃bx:Obj,bx=.cells #[.int .i64 yk,.slice (some ⟨g,0,none⟩) l c] 294:=⟨_,rfl⟩;have ZB:=hid (HM.out.alloc bx);have HA1:=hid (HA.out.oN ((Fr.refl [] wr).alloc bx));have jc:=hid (HF.out.alloc bx);have HB1:=hid (gQ wr bx);rw[hbx]at ZB HA1 jc HB1;have XT:=hid (show k<rs.length by rw[<-HN.out];exact hlt);have HGL:=hid (PY HG.out);have hcnt:=zq q.K rs k;rw[<-HGL.out]at hcnt;have aaR:=hid (show(rs.take k).flatten.length+l<=1000000 by have h5:=KG Tt.out (k:=k+1);rw[Eb XT.out,<-Ia.out,HK.out]at h5;omega);clear hbx hX hY;go_upto_if 32 with(at_lookup;refine gK _ rfl _ _ 258 rfl 3 3 .i64 sX underlying258 underlying3 (Cr _) wB.heap.size k D' rfl ZB.out _ (kN x0) rfl (keyOf_int_mk underlying3 (f_ (by omega))) ?_;intro c2 hat hwc)
   go_cut [4,8,9]from 18 to 84 (fun v4 v8 _ wx=>∃(a g4 n4 c4:Nat) (gs1:List SD) (d1:SD),v8=.int .i64 a/\v4=.slice (some ⟨g4,0,none⟩) n4 c4/\a<n4/\n4<=1000001/\Hid (AL wx wB.heap.size q.U (.slice (some ⟨g4,0,none⟩) n4 c4) gs1)/\Hid (n4=gs1.length)/\Hid (gs1[a]?=some d1)/\Hid (a=ow q.K rs k)/\Hid (∀v',AJ q.K L lv (gs1.set a ⟨d1.S,v',d1.I++run rs k,d1.lv,d1.kE,X⟩) (jL q.K rs (k+1)).all)/\Hid (d1.I.length+l<=1000000)/\Hid (wx.ownsMap prog 3 (plainElem prog 3) wB.heap.size k D')/\Hid (wx.heap[wr.heap.size]?=some (.cells #[.int .i64 yk,.slice (some ⟨g,0,none⟩) l c] 294 (0,0)))/\Hid (Fr [] wB wx))
   case first =>
    cases haw:(jL q.K rs k).aw x0 with
    | some a =>
      have hhas:Maps.has D' (kN x0)=true:=by rw[XS.out.1,haw];rfl
      obtain rfl:c2=(a:Int):=by have h5:=hat.symm.trans (XS.out.2 a haw _);simpa using h5
      rw[hhas];have halt:a<gs.length:=by rw[HGL.out];exact FX q.K rs k _ _ haw
      obtain⟨d1,hd1⟩:∃d1,gs[a]?=some d1:=⟨_,aA halt⟩;have xS:=HA1.out.own;obtain⟨g4,c4,aaS⟩:=iQ (by omega) xS;obtain⟨n4,Jb⟩:∃n4,n4=gs.length:=⟨_,rfl⟩;rw[<-Jb]at aaS;subst aaS;have HR1:=hid (show Hid (a=ow q.K rs k)from hid (by rw[ow,<-HFN.out,haw]));have HR2:=hid (fun v'=>by have h5:=HG.out.old XT.out Tt.out P4.out Fv.out NR.out (by rw[<-HFN.out];exact haw) hd1 v';rw[HYK.out,<-HN.out,<-HX.out]at h5;exact h5);have HR3:=hid (show d1.I.length+l<=1000000 by have h5:=zo (K:=q.K) (rs:=rs) k (by have:=XT.out;omega) a d1.I (PX HG.out hd1);have:=aaR.out;omega);have GB:=hid Jb;have HD1:=hid hd1;clear haw hat hwc hhas xS Jb hd1;go_wp2;go_meet;exact⟨a,g4,n4,c4,gs,d1,rfl,rfl,by have:=GB.out;omega,by have:=GB.out;omega,HA1,GB,HD1,HR1.out,HR2,HR3,ZB,HB1,jc⟩
    | none =>
      have hhas:Maps.has D' (kN x0)=false:=by rw[XS.out.1,haw];rfl
      rw[hhas];obtain⟨a4,c4,hv4⟩:=iW HA1.out.own;obtain⟨n4,Jb⟩:∃n4,n4=gs.length:=⟨_,rfl⟩;rw[<-Jb]at hv4;subst hv4;have GB:=hid Jb;have xS:=HA1.out.own;rw[<-Jb]at xS hcnt;have oI:=hid xS;have HR1:=hid (show n4=ow q.K rs k by rw[ow,<-HFN.out,haw,Jb];exact HGL.out);have HR2:=hid (fun S v'=>by have h5:=HG.out.new XT.out Tt.out NR.out (by rw[<-HFN.out];exact haw) S v';rw[HYK.out,<-HN.out,<-HX.out,<-HY.out]at h5;exact h5);have aex:=hid (fun Z (hf:Fr [] wr Z)=>GH q P cU lv w Z o n c1 B0 rs ls hs ((k:Int) - 1) (HQ.out.s.fr (SC.out.fr.trans (HF.out.trans hf)) aj) (aaP.out.oN hf) HN.out);have XU:0<=yk:=by have h5:=HL.out (iV (run rs k));have h6:=V5.out;rw[<-h6]at h5;exact h5
      have Mm:=hid (fun Z=>Ck yk (qx ls n lv ((k:Int) - 1)) Z XU);rw[<-HY.out]at Mm;generalize qx ls n lv ((k:Int) - 1)=z1 at *;have hwr:IntKind.i64.wrap ((k:Int) - 1)=(k:Int) - 1:=by rw[fM];omega
      clear haw hat hwc hhas Jb xS;go_wp2
      go_region_law (first
       | (refine tX rfl 174 _ _ rfl (g_ func174 (by kernel_rfl) rfl) #[.pointer (some ⟨P,0,none⟩),.slice (some ⟨o,0,none⟩) n c1,.int .i64 ((k:Int) - 1)] ?q1 (.int .i64 z1) (aex.out _ ?q2) ?_;(case q1=>simp[Act.eval,Act.put]);(case q2=>exact((Fr.refl [] wr).alloc _).drew))
       | (refine tX rfl 173 _ _ rfl (g_ func173 (by kernel_rfl) rfl) #[.int .i64 yk,.int .i64 z1] ?q1 (.int .i64 Y) (Mm.out _) ?_;(case q1=>simp[Act.eval,Act.put]))
       | (refine oD rfl (.tmp 35) (.tmp 48) 261 rfl wB.heap.size 263 i1 _ 1 8 underlying261 hi1 hy0 hy1 hy2 rfl (by decide) (.slice a4 n4 c4) n4 (gs.map (fun d=>.pointer (some ⟨d.S,0,none⟩))) ?q1 ?q2 ⟨wr.heap.size+2,0,none⟩ 1 1 [.pointer (some ⟨wr.heap.size+1,0,none⟩)] ?q3 rfl ?q4 (KD _) (by unfold maxLen;omega) (by omega) ?q5 ?_;(case q1=>simp[Act.eval,Act.put]);(case q2=>exact iM oI.out ((((Fr.refl [] _).drew).alloc _).alloc _));(case q3=>simp[Act.eval,Act.put]);(case q4=>exact kM _ _ _ _ (by simp));(case q5=>simp;omega);intro v' w' hown hgrow hat;obtain⟨g',c',hv'⟩:=iQ (by omega) hown;subst hv';have SE:=hid (HA1.out.made GB.out hown hgrow (by simp) jc.out ZB.out HB1.out (by decide));clear hown hgrow hat))
      all_goals (
       go_wp2
       go_meet
       exact⟨n4,g',n4+1,c',gs++[⟨wr.heap.size+1,.slice none 0 0,[],yk,Y,0⟩],⟨wr.heap.size+1,.slice none 0 0,[],yk,Y,0⟩,rfl,rfl,by omega,by omega,hid SE.out.1,hid (by rw[aD,<-GB.out];rfl),hid (by rw[GB.out];simp),HR1,hid (fun v'=>by rw[GB.out];simp;exact HR2.out _ v'),hid (by have:=aaR.out;simp;omega),hid SE.out.2.2.1,hid SE.out.2.2.2,hid SE.out.2.1⟩)
   case rest =>
    obtain⟨a,g4,n4,c4,gs1,d1,rfl,rfl,ha4,Jb,HA2,GB,HD1,HOW,HG2,D2,HM2,HB2,i_⟩:=hcut;obtain⟨S,v1,I1,Bb,s7,Ml⟩:=d1;have Gt:=hid (HA2.out.sb a _ HD1.out);have q0:=HA2.out.cell HD1.out GB.out;dsimp only at q0;have b0:wc.cell? ⟨wr.heap.size,0,none⟩=some (.int .i64 yk):=by rw[fI _ _ 0 _ 294 (0,0) HB2.out];rfl
    have b1:wc.cell? ⟨wr.heap.size,1,none⟩=some (.slice (some ⟨g,0,none⟩) l c):=by rw[fI _ _ 1 _ 294 (0,0) HB2.out];rfl
    have s3:wc.cell? ⟨S,3,none⟩=some (.int .i64 Ml):=Gt.out.cell rfl;have f3:wc.frozen? ⟨S,3,none⟩=false:=Gt.out.mq 3;have aiE:(a:Int)<(n4:Int):=by omega
    have E0:=hid (show jw (run rs k)<q.n by have h5:=(P4.out.mem XT.out (kZ (P4.out.ne k XT.out))).1;rw[HK.out]at h5;exact h5);have XU:0<=yk:=by have h5:=HL.out (iV (run rs k));have h6:=V5.out;rw[<-h6]at h5;exact h5
    obtain⟨z2,hz2⟩:∃z2,z2=if mh (nth q.K (jw (run rs k)))then lv else qx ls n lv ((k:Int)+1):=⟨_,rfl⟩
    have XV:=hid (fun Z (hf:Fr [] wc Z)=>PO q C L P cU lv w Z o n c1 B0 rs ls hs k g c (HU.out.fr (SC.out.fr.trans (i_.out.trans hf)) aj) (HQ.out.s.fr (SC.out.fr.trans (i_.out.trans hf)) aj) (SC.out.oN (i_.out.trans hf)) HN.out hlt hnb HH1.out (iM HH3.out (i_.out.trans hf)) (by rw[<-Ia.out];exact hr0) (by rw[<-Ia.out];exact hrl) E0.out);rw[<-hz2]at XV;have Mm:=hid (fun Z=>Ck yk z2 Z XU);rw[hz2,<-HX.out,<-hz2]at Mm;have aaT:=fC _ _ q0;have hbl:=fC _ _ b0;have hSl:=fC _ _ s3;dsimp only at aaT hbl hSl;clear hz2 k1 k2 p0 Co hol hgl;go_upto_region 11 with fail
    go_cut []from 18 to 84 (fun wx=>Hid (AL wx wB.heap.size q.U (.slice (some ⟨g4,0,none⟩) n4 c4) (gs1.set a ⟨S,v1,I1,Bb,s7,X⟩))/\Hid (wx.ownsMap prog 3 (plainElem prog 3) wB.heap.size k D')/\Hid (wx.heap[wr.heap.size]?=some (.cells #[.int .i64 yk,.slice (some ⟨g,0,none⟩) l c] 294 (0,0)))/\Hid (Fr [] wB wx))
    case first =>
     go_region_with (first | (go_at_call 175;refine(XV.out _ ?_).mono ?_;exact s_ _ _ _ rfl rfl rfl rfl;rintro e w1 ⟨rfl,hf1⟩;have u_:Fr [] wc w1:=⟨hf1.os,hf1.tape,hf1.output,hf1.size,hf1.block⟩;have jQ:=hid u_;have m0:=u_.cell q0 aj;have m1:=u_.cell b0 aj;have m2:=u_.cell s3 aj;have m3:=u_.mq s3 aj f3;clear hf1 u_) | (go_at_call 173;refine(Mm.out _).mono ?_;rintro e w2 ⟨rfl,rfl⟩))
     all_goals (
      go_wp2
      go_meet
      have h5:=HA2.out.behind HD1.out i_.out jQ.out HM2.out HB2.out (by decide) X
      exact⟨hid h5.1,hid h5.2.1,hid h5.2.2.1,hid h5.2.2.2⟩)
    case rest =>
     obtain⟨J',Xe,HB3,jQ⟩:=hcut;have HD3:=hid (show(gs1.set a ⟨S,v1,I1,Bb,s7,X⟩)[a]?=some ⟨S,v1,I1,Bb,s7,X⟩from bn (by rw[<-GB.out];exact ha4));have HN5:=hid (show n4=(gs1.set a ⟨S,v1,I1,Bb,s7,X⟩).length by rw[bK];exact GB.out);have Pn:=hid (fun(y:SD)=>show(gs1.set a ⟨S,v1,I1,Bb,s7,X⟩).set a y=gs1.set a y from List.set_set _);generalize gs1.set a ⟨S,v1,I1,Bb,s7,X⟩=gs2 at J' HD3 HN5 Pn;have q1:=J'.out.cell HD3.out HN5.out;dsimp only at q1;have e0:wc.cell? ⟨wr.heap.size,0,none⟩=some (.int .i64 yk):=by rw[fI _ _ 0 _ 294 (0,0) HB3.out];rfl
     have e1:wc.cell? ⟨wr.heap.size,1,none⟩=some (.slice (some ⟨g,0,none⟩) l c):=by rw[fI _ _ 1 _ 294 (0,0) HB3.out];rfl
     have aaV:=hid (fun Z (hf:Fr [] wc Z)=>PT q P cU lv Z wB.heap.size S v1 I1 (run rs k) Bb s7 X yk g l c (HQ.out.s.fr (SC.out.fr.trans (jQ.out.trans hf)) aj) ((J'.out.sb a _ HD3.out).oN hf) (by rw[Ia.out];exact nF (iM HH3.out (jQ.out.trans hf)) rfl) Ia.out (fun j hj=>by have h5:=(P4.out.mem XT.out (show iP (run rs k) j∈run rs k by rw[jq (by rw[<-Ia.out];exact hj)];exact bB _)).1;rw[HK.out]at h5;exact h5) D2.out hn (aK jQ.out.size hf.size) (by omega) hh2);clear XV Mm q0 b0 b1 s3 f3 aaT hbl hSl;go_upto_region 12 with fail
     go_cut []from 18 to 84 (fun wx=>∃v',Hid (AL wx wB.heap.size q.U (.slice (some ⟨g4,0,none⟩) n4 c4) (gs1.set a ⟨S,v',I1++run rs k,Bb,s7,X⟩))/\Hid (wx.ownsMap prog 3 (plainElem prog 3) wB.heap.size k D')/\Hid (wx.heap[wr.heap.size]?=some (.cells #[.int .i64 yk,.slice (some ⟨g,0,none⟩) l c] 294 (0,0)))/\Hid (Fr [] wB wx))
     case first =>
      go_region_with (first | (go_at_call 176;refine(aaV.out _ ?_).mono ?_;exact s_ _ _ _ rfl rfl rfl rfl;rintro e w1 ⟨rfl,⟨v',hb,hl⟩,hf⟩;have HJ:=hid ((J'.out.oN ((Fr.refl [] wc).drew)).joined HD3.out (jQ.out.drew) (oC Xe.out ((Fr.refl [] wc).drew)) HB3.out (by decide) hb hl hf);clear hb hl hf))
      all_goals (
       go_wp2
       go_meet
       exact⟨v',hid (by rw[<-Pn.out];exact HJ.out.1),hid HJ.out.2.1,hid HJ.out.2.2.1,hid HJ.out.2.2.2⟩)
     case rest =>
      obtain⟨v',HA4,HM4,FL,jI⟩:=hcut;have e2:wc.cell? ⟨wr.heap.size,0,none⟩=some (.int .i64 yk):=by rw[fI _ _ 0 _ 294 (0,0) FL.out];rfl
      have e3:wc.cell? ⟨wr.heap.size,1,none⟩=some (.slice (some ⟨g,0,none⟩) l c):=by rw[fI _ _ 1 _ 294 (0,0) FL.out];rfl
      have XW:=hid (HQ.out.fr (SC.out.fr.trans jI.out) aj aj);have e4:=XW.out.c1;have ZC:=hid (show j9.partAt q.K q.n (jw (run rs k))=leads q.K (run rs k) by rw[<-HK.out,pU q.K _ (by rw[HK.out];exact E0.out)];rfl);have aeA:=hid (fun Z (hf:Fr [] wc Z)=>GG yk g l c w.heap.size (run rs k) Z (by have h5:=iM HH3.out (jI.out.trans hf);rw[<-Ia.out]at h5;exact h5) Ia.out hr0 hrl);have aeB:=hid (fun Z (hf:Fr [] wc Z)=>(XW.out.fr hf aj aj).m.look_ok sX underlying258 (Cr Z) (zd:=.lit (.int .i64 0)) (zp:=[]) (plainElem_int underlying3 (by decide)) (keyOf_int_mk underlying3 (a:=((jw (run rs k):Nat):Int)) (f_ (by have:=E0.out;omega))));have ZD:=hid (XW.out.i.2 (jw (run rs k)));rw[ZC.out]at ZD;obtain⟨ld,hld⟩:∃ld,ld=leads q.K (run rs k):=⟨_,rfl⟩;rw[<-hld]at ZD;have XX:=hid hld;have og:=hid (HG2.out v');generalize gs1.set a ⟨S,v',I1++run rs k,Bb,s7,X⟩=gs3 at HA4 og;clear aaV q1 e0 e1 hld ZC;go_upto_region 13 with fail
      go_cut [10,11]from 18 to 84 (fun v10 v11 wx=>∃c3:Int,v10=.int .i64 c3/\v11=.bool ld.isSome/\Hid (∀p,ld=some p->c3=(p:Nat))/\Hid (AL wx wB.heap.size q.U (.slice (some ⟨g4,0,none⟩) n4 c4) gs3)/\Hid (wx.ownsMap prog 3 (plainElem prog 3) wB.heap.size k D')/\Hid (Fr [] wB wx))
      case first =>
       go_region_with (first | (go_at_call 177;refine(aeA.out _ ?_).mono ?_;exact s_ _ _ _ rfl rfl rfl rfl;rintro e w1 ⟨rfl,hf1⟩;have u_:Fr [] wc w1:=⟨hf1.os,hf1.tape,hf1.output,hf1.size,hf1.block⟩;have pF:=hid u_;have m4:=u_.cell e4 aj;obtain⟨vv,pss,hrun,hv⟩:=aeB.out w1 u_;obtain⟨c3,rfl,hc,hwc⟩:=plainElem_int_inv underlying3 hv;rw[ZD.out.1]at hrun;have HC3:=hid (fun p hp=>(show c3=(p:Nat) by have h5:=(congrArg Prod.fst hc).symm.trans (ZD.out.2 p hp _);simpa using h5));clear hf1 u_ hv hc hwc))
       all_goals (
        go_wp2
        go_meet
        exact⟨c3,rfl,rfl,HC3,hid (HA4.out.oN pF.out),hid (oC HM4.out pF.out),hid (jI.out.trans pF.out)⟩)
      case rest =>
       obtain⟨c3,rfl,rfl,HC3,HA5,TV,pF⟩:=hcut;cases ld with
       | none =>
         have Wa:=hid (show tU D' (jL q.K rs (k+1)).aw by rw[TS XX.out.symm];exact HI.out);clear HG2 ZD HC3;go_wp2;go_roundw
         case rel=>exact⟨k+1,gs3,D',by go_num,by omega,HA5,og,hid (TV.out.mono (by omega)),Wa,pF⟩
         case measure=>simp[intOf];omega
       | some p =>
         have hpl:=PW XX.out.symm;rw[HK.out]at hpl;have Wa:=hid (show tU (D'.put (kN p) (.lit (.int .i64 (a:Nat)))) (jL q.K rs (k+1)).aw by rw[TU XX.out.symm,<-HOW.out];exact HI.out.put p a);obtain rfl:=HC3.out p rfl;clear HG2 ZD HC3;go_wp2_with (at_mapUpdate;refine iw _ rfl _ _ _ 258 rfl 3 3 sX underlying258 _ wB.heap.size k D' rfl TV.out (by unfold maxLen;omega) _ _ (kN p) rfl rfl (keyOf_int_mk underlying3 (f_ (by omega))) (.lit (.int .i64 (a:Nat))) [] (plainElem_int underlying3 (f_ (by omega))) ?_);intro w3 hown3 hgrow3;have HM6:=hid hown3;have HA6:=hid (HA5.out.mapped TV.out hgrow3);have zl:=hid (pF.out.late (Fr.m8 hgrow3) (fun b hb=>by rw[ak.1 hb];exact au _));clear hown3 hgrow3;go_wp2;go_roundw
         case rel=>exact⟨k+1,gs3,_,by go_num,by omega,HA6,og,HM6,Wa,zl⟩
         case measure=>simp[intOf];omega
  ·have hke:k=n:=by omega
   have HGZ:=hid (show AJ q.K L lv gs (pI q.K rs) by rw[<-HDV.out,<-HN.out,<-hke];exact HG.out);have wX:¬(k:Int)<(n:Int):=by omega
   clear hke HG;go_wp2;go_ret;exact⟨_,rfl,gs,wB.heap.size,HA.out,HGZ.out,hBw,SC.out.fr.trans HF.out⟩
end Go.Proofs.YtnakejhohdbfdacGreatDoor

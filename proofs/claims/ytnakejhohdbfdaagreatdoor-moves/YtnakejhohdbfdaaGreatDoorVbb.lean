import Derived.Test.YtnakejhohdbfdaaGreatDoorVba
import Derived.Deep.RegionHeld
set_option maxHeartbeats 8000000
set_option maxRecDepth 10000
set_option linter.unusedSimpArgs false
namespace Go.Proofs.YtnakejhohdbfdaaGreatDoor
open Go.RowKit jN Go.Maps Go.Proofs.Tryz
theorem Ro (q:UH)(C L:List Int)(P cU mb nm:Nat)(lv:Int)(D:DataW Unit)(w:World)(hu:US w q C L)(hq:QM w q P cU mb nm lv D)(hK:q.K.length=q.n)(hn:q.n<=1000000)(hn0:0<q.n)(hL:∀i,0<=nth L i)
 (hfl:∀a b:List Nat,gN a<q.K.length->follows q.K a b=true->nth L (gq b)=nth L (gN a)) :
 Calls prog 75 #[.pointer (some ⟨P,0,none⟩)] w fun e w'=>∃v gs B,e=.returned v/\AL w' B q.U v gs/\AO q.K L lv gs (ny q.K (ig q.K L q.K.length))/\w.heap.size<=B/\Fr [] w w':=by
 obtain⟨i1,hi1,hy0,hy1,hy2⟩:=e_ U5;have hmm:=@run_makeMap prog;have HU:=hid hu;have HQ:=hid hq;have CN:q.U<w.heap.size:=eS _ _ (hu.r 0 hn0);have rW:P<w.heap.size:=eS _ _ hq.s.c0;have EA:=hid (Rd q C L P cU lv w hu hq.s hK hn hn0);have ZY:=hid (oJ q.K L q.K.length);have Rp:=hid (oK q.K L);have Te:=hid (oF q.K L q.K.length);have HDV:=hid (xL (oK q.K L));have IE:=hid (zB (oJ q.K L q.K.length) (oK q.K L) hfl);have HL:=hid hL;have HK:=hid hK;generalize ig q.K L q.K.length=rs at *;clear hu hq hK hL hfl;go_enter func75,ntmps75;go_wp2_with (first | (go_at_call 134;refine EA.out.mono ?_;rintro e wB ⟨v,rfl,ls,hs,B0,hrp,hlv⟩;obtain⟨a1,c1,hv1⟩:=gA hrp.own;obtain⟨n,hn'⟩:∃n,n=rs.length:=⟨_,rfl⟩;rw[<-hn']at hv1;subst hv1;have DA:=hid hrp;have Cz:=hid hlv;have HN:=hid hn';have hsh:=Te.out.1;rw[<-hn',HK.out]at hsh;have hnb:n<=1000000:=(by omega);have hBw:=hrp.fr.size;clear hrp hlv hn' hsh));go_loopw [4,17] (fun v a wr=>∃(k:Nat) (gs:List SD) (D':DataW Unit),a=.int .i64 k/\k<=n/\Hid (AL wr wB.heap.size q.U v gs)/\Hid (AO q.K L lv gs (i_ q.K rs k).all)/\Hid (wr.ownsMap prog 3 (plainElem prog 3) wB.heap.size k D')/\Hid (uy D' (i_ q.K rs k).aw)/\Hid (Fr [] wB wr)) (fun _ a _=>n - (intOf a).toNat)
 case atStart=>exact⟨0,[],_,rfl,aH _,hid (AL.start _ _ _),hid ⟨rfl,fun x hx=>by simp at hx⟩,hid (World.ownsMap_made _ _ _ _),hid An,hid ((Fr.refl _ _).alloc _)⟩
 case round =>
  obtain⟨k,gs,D',rfl,hk,HA,HG,HM,HI,HF⟩:=hrel;by_cases hlt:k<n
  ·have hkr:k<rs.length:=by rw[<-HN.out];exact hlt
   have hown:=DA.out.own;rw[<-HN.out]at hown;obtain⟨o,cap,FE⟩:=fR (by omega) hown;cases FE;have Jj:=hid (DA.out.iS HF.out);obtain⟨g,c,ZZ,hh2,hh3⟩:=DA.out.row (fun j hj=>Rp.out.ne j hj) hkr;have hcl:=Jj.out.cells HN.out hlt;have k1:=hcl.1;have k2:=hcl.2;rw[ZZ]at k2;have HH1:=hid ZZ;have HH3:=hid hh3;have HR3:=hid (fS hh3 HF.out);have hr0:=bB.2 (Rp.out.ne k hkr);have hrl:(run rs k).length<=1000000:=by have h5:=Te.out.2 _ (kU hkr);rw[HK.out]at h5;omega
   have p0:=jJ HR3.out rfl 0 hr0;have HFN:=hid (show fX (run rs k) 0=gq (run rs k)from rfl);have hol:=eS _ _ k1;have hgl:=eS _ _ p0;dsimp only at hol hgl;have sX:(k:Int)<(n:Int):=by omega
   have hwl:=HF.out.size;have Ag:=hid (Rp.out.mem hkr (kQ (Rp.out.ne k hkr)));have WD:=hid (Cz.out k hkr);obtain⟨l,hl⟩:∃l,l=(run rs k).length:=⟨_,rfl⟩;rw[<-hl]at k2 hr0 hrl;have tI:=hid hl;have hl0:(0:Int)<(l:Int):=by omega
   generalize hx0:fX (run rs k) 0=x0 at *;have alc:x0<=1000000:=by have h5:=Ag.out.1;rw[HK.out,<-HFN.out]at h5;omega
   generalize hyk:nth ls k=yk at *;have HYK:=hid hyk;clear hown hcl ZZ hh3 hl hx0 hyk hkr;have My:=hid (HI.out.2 x0);have Tn:=HM.out.lt;obtain⟨X,hX⟩:∃X,X=way (max yk (if j6 (nth q.K (gN (run rs k)))then lv else qA ls n lv ((k:Int)+1))):=⟨_,rfl⟩;have HX:=hid hX;obtain⟨Y,hY⟩:∃Y,Y=way (max yk (qA ls n lv ((k:Int) - 1))):=⟨_,rfl⟩;have HY:=hid hY;obtain⟨bx,hbx⟩:∃bx:Obj,bx=.cells #[.int .i64 yk,.slice (some ⟨g,0,none⟩) l c] 217:=⟨_,rfl⟩;have HM1:=hid (HM.out.alloc bx);have HA1:=hid (HA.out.iS ((Fr.refl [] wr).alloc bx));have iy:=hid (HF.out.alloc bx);have HB1:=hid (fH wr bx);rw[hbx]at HM1 HA1 iy HB1;have Yt:=hid (show k<rs.length by rw[<-HN.out];exact hlt);have HGL:=hid (Rn HG.out);have hcnt:=zD q.K rs k;rw[<-HGL.out]at hcnt;have abR:=hid (show(rs.take k).flatten.length+l<=1000000 by have h5:=K5 ZY.out (k:=k+1);rw[EK Yt.out,<-tI.out,HK.out]at h5;omega);clear hbx hX hY;go_upto_if 32 with(at_lookup;refine wpList_lookup_own_ok_int _ rfl _ _ 135 rfl 3 3 .i64 tB underlying135 underlying3 (CO _) wB.heap.size k D' rfl HM1.out _ (kN x0) rfl (keyOf_int_mk underlying3 (fB (by omega))) ?_;intro c2 hat hwc)
   go_cut [4,8,9]from 18 to 84 (fun v4 v8 _ wx=>∃(a g4 n4 c4:Nat) (gs1:List SD) (d1:SD),v8=.int .i64 a/\v4=.slice (some ⟨g4,0,none⟩) n4 c4/\a<n4/\n4<=1000001/\Hid (AL wx wB.heap.size q.U (.slice (some ⟨g4,0,none⟩) n4 c4) gs1)/\Hid (n4=gs1.length)/\Hid (gs1[a]?=some d1)/\Hid (a=ow q.K rs k)/\Hid (∀v',AO q.K L lv (gs1.set a ⟨d1.S,v',d1.I++run rs k,d1.lv,d1.iq,X⟩) (i_ q.K rs (k+1)).all)/\Hid (d1.I.length+l<=1000000)/\Hid (wx.ownsMap prog 3 (plainElem prog 3) wB.heap.size k D')/\Hid (wx.heap[wr.heap.size]?=some (.cells #[.int .i64 yk,.slice (some ⟨g,0,none⟩) l c] 217 (0,0)))/\Hid (Fr [] wB wx))
   case first =>
    cases haw:(i_ q.K rs k).aw x0 with
    | some a =>
      have hhas:Maps.has D' (kN x0)=true:=by rw[My.out.1,haw];rfl
      obtain rfl:c2=(a:Int):=by have h5:=hat.symm.trans (My.out.2 a haw _);simpa using h5
      rw[hhas];have halt:a<gs.length:=by rw[HGL.out];exact F_ q.K rs k _ _ haw
      obtain⟨d1,hd1⟩:∃d1,gs[a]?=some d1:=⟨_,az halt⟩;have yB:=HA1.out.own;obtain⟨g4,c4,abS⟩:=fR (by omega) yB;obtain⟨n4,DC⟩:∃n4,n4=gs.length:=⟨_,rfl⟩;rw[<-DC]at abS;subst abS;have HR1:=hid (show Hid (a=ow q.K rs k)from hid (by rw[ow,<-HFN.out,haw]));have HR2:=hid (fun v'=>by have h5:=HG.out.old Yt.out ZY.out Rp.out IE.out Cz.out (by rw[<-HFN.out];exact haw) hd1 v';rw[HYK.out,<-HN.out,<-HX.out]at h5;exact h5);have HR3:=hid (show d1.I.length+l<=1000000 by have h5:=zC (K:=q.K) (rs:=rs) k (by have:=Yt.out;omega) a d1.I (Rm HG.out hd1);have:=abR.out;omega);have GX:=hid DC;have HD1:=hid hd1;clear haw hat hwc hhas yB DC hd1;go_wp2;go_meet;exact⟨a,g4,n4,c4,gs,d1,rfl,rfl,by have:=GX.out;omega,by have:=GX.out;omega,HA1,GX,HD1,HR1.out,HR2,HR3,HM1,HB1,iy⟩
    | none =>
      have hhas:Maps.has D' (kN x0)=false:=by rw[My.out.1,haw];rfl
      rw[hhas];obtain⟨a4,c4,hv4⟩:=gA HA1.out.own;obtain⟨n4,DC⟩:∃n4,n4=gs.length:=⟨_,rfl⟩;rw[<-DC]at hv4;subst hv4;have GX:=hid DC;have yB:=HA1.out.own;rw[<-DC]at yB hcnt;have jD:=hid yB;have HR1:=hid (show n4=ow q.K rs k by rw[ow,<-HFN.out,haw,DC];exact HGL.out);have HR2:=hid (fun S v'=>by have h5:=HG.out.new Yt.out ZY.out Cz.out (by rw[<-HFN.out];exact haw) S v';rw[HYK.out,<-HN.out,<-HX.out,<-HY.out]at h5;exact h5);have afX:=hid (fun Z (hf:Fr [] wr Z)=>Hg q P cU lv w Z o n c1 B0 rs ls hs ((k:Int) - 1) (HQ.out.s.fr (DA.out.fr.trans (HF.out.trans hf)) af) (Jj.out.iS hf) HN.out);have Yu:0<=yk:=by have h5:=HL.out (gq (run rs k));have h6:=WD.out;rw[<-h6]at h5;exact h5
      have Ni:=hid (fun Z=>Cg yk (qA ls n lv ((k:Int) - 1)) Z Yu);rw[<-HY.out]at Ni;generalize qA ls n lv ((k:Int) - 1)=z1 at *;have hwr:IntKind.i64.wrap ((k:Int) - 1)=(k:Int) - 1:=by rw[eT];omega
      clear haw hat hwc hhas DC yB;go_wp2
      go_region_law (first
       | (refine uB rfl 136 _ _ rfl (enters_of func136 (by kernel_rfl) rfl) #[.pointer (some ⟨P,0,none⟩),.slice (some ⟨o,0,none⟩) n c1,.int .i64 ((k:Int) - 1)] ?q1 (.int .i64 z1) (afX.out _ ?q2) ?_;(case q1=>simp[Act.eval,Act.put]);(case q2=>exact((Fr.refl [] wr).alloc _).drew))
       | (refine uB rfl 135 _ _ rfl (enters_of func135 (by kernel_rfl) rfl) #[.int .i64 yk,.int .i64 z1] ?q1 (.int .i64 Y) (Ni.out _) ?_;(case q1=>simp[Act.eval,Act.put]))
       | (refine uA rfl (.tmp 35) (.tmp 48) 138 rfl wB.heap.size 140 i1 _ 1 8 underlying138 hi1 hy0 hy1 hy2 rfl (by decide) (.slice a4 n4 c4) n4 (gs.map (fun d=>.pointer (some ⟨d.S,0,none⟩))) ?q1 ?q2 ⟨wr.heap.size+2,0,none⟩ 1 1 [.pointer (some ⟨wr.heap.size+1,0,none⟩)] ?q3 rfl ?q4 (K3 _) (by unfold maxLen;omega) (by omega) ?q5 ?_;(case q1=>simp[Act.eval,Act.put]);(case q2=>exact fS jD.out ((((Fr.refl [] _).drew).alloc _).alloc _));(case q3=>simp[Act.eval,Act.put]);(case q4=>exact iC _ _ _ _ (by simp));(case q5=>simp;omega);intro v' w' hown hgrow hat;obtain⟨g',c',hv'⟩:=fR (by omega) hown;subst hv';have Fq:=hid (HA1.out.made GX.out hown hgrow (by simp) iy.out HM1.out HB1.out (by decide));clear hown hgrow hat))
      all_goals (
       go_wp2
       go_meet
       exact⟨n4,g',n4+1,c',gs++[⟨wr.heap.size+1,.slice none 0 0,[],yk,Y,0⟩],⟨wr.heap.size+1,.slice none 0 0,[],yk,Y,0⟩,rfl,rfl,by omega,by omega,hid Fq.out.1,hid (by rw[aG,<-GX.out];rfl),hid (by rw[GX.out];simp),HR1,hid (fun v'=>by rw[GX.out];simp;exact HR2.out _ v'),hid (by have:=abR.out;simp;omega),hid Fq.out.2.2.1,hid Fq.out.2.2.2,hid Fq.out.2.1⟩)
   case rest =>
    obtain⟨a,g4,n4,c4,gs1,d1,rfl,rfl,ha4,DC,HA2,GX,HD1,HOW,HG2,sZ,tF,HB2,f_⟩:=hcut;obtain⟨S,v1,I1,xD,tC,Nh⟩:=d1;have HSB:=hid (HA2.out.sb a _ HD1.out);have q0:=HA2.out.cell HD1.out GX.out;dsimp only at q0;have b0:wc.cell? ⟨wr.heap.size,0,none⟩=some (.int .i64 yk):=by rw[fu _ _ 0 _ 217 (0,0) HB2.out];rfl
    have b1:wc.cell? ⟨wr.heap.size,1,none⟩=some (.slice (some ⟨g,0,none⟩) l c):=by rw[fu _ _ 1 _ 217 (0,0) HB2.out];rfl
    have s3:wc.cell? ⟨S,3,none⟩=some (.int .i64 Nh):=HSB.out.cell rfl;have f3:wc.frozen? ⟨S,3,none⟩=false:=HSB.out.j8 3;have ale:(a:Int)<(n4:Int):=by omega
    have Il:=hid (show gN (run rs k)<q.n by have h5:=(Rp.out.mem Yt.out (jI (Rp.out.ne k Yt.out))).1;rw[HK.out]at h5;exact h5);have Yu:0<=yk:=by have h5:=HL.out (gq (run rs k));have h6:=WD.out;rw[<-h6]at h5;exact h5
    obtain⟨z2,hz2⟩:∃z2,z2=if j6 (nth q.K (gN (run rs k)))then lv else qA ls n lv ((k:Int)+1):=⟨_,rfl⟩
    have Yv:=hid (fun Z (hf:Fr [] wc Z)=>Rg q C L P cU lv w Z o n c1 B0 rs ls hs k g c (HU.out.fr (DA.out.fr.trans (f_.out.trans hf)) af) (HQ.out.s.fr (DA.out.fr.trans (f_.out.trans hf)) af) (DA.out.iS (f_.out.trans hf)) HN.out hlt hnb HH1.out (fS HH3.out (f_.out.trans hf)) (by rw[<-tI.out];exact hr0) (by rw[<-tI.out];exact hrl) Il.out);rw[<-hz2]at Yv;have Ni:=hid (fun Z=>Cg yk z2 Z Yu);rw[hz2,<-HX.out,<-hz2]at Ni;have abT:=eS _ _ q0;have hbl:=eS _ _ b0;have hSl:=eS _ _ s3;dsimp only at abT hbl hSl;clear hz2 k1 k2 p0 CN hol hgl;go_upto_region 11 with fail
    go_cut []from 18 to 84 (fun wx=>Hid (AL wx wB.heap.size q.U (.slice (some ⟨g4,0,none⟩) n4 c4) (gs1.set a ⟨S,v1,I1,xD,tC,X⟩))/\Hid (wx.ownsMap prog 3 (plainElem prog 3) wB.heap.size k D')/\Hid (wx.heap[wr.heap.size]?=some (.cells #[.int .i64 yk,.slice (some ⟨g,0,none⟩) l c] 217 (0,0)))/\Hid (Fr [] wB wx))
    case first =>
     go_region_with (first | (go_at_call 137;refine(Yv.out _ ?_).mono ?_;exact iD _ _ _ rfl rfl rfl rfl;rintro e w1 ⟨rfl,hf1⟩;have vI:Fr [] wc w1:=⟨hf1.os,hf1.tape,hf1.output,hf1.size,hf1.block⟩;have iO:=hid vI;have m0:=vI.cell q0 af;have m1:=vI.cell b0 af;have m2:=vI.cell s3 af;have m3:=vI.j8 s3 af f3;clear hf1 vI) | (go_at_call 135;refine(Ni.out _).mono ?_;rintro e w2 ⟨rfl,rfl⟩))
     all_goals (
      go_wp2
      go_meet
      have h5:=HA2.out.behind HD1.out f_.out iO.out tF.out HB2.out (by decide) X
      exact⟨hid h5.1,hid h5.2.1,hid h5.2.2.1,hid h5.2.2.2⟩)
    case rest =>
     obtain⟨Eu,HM3,HB3,iO⟩:=hcut;have HD3:=hid (show(gs1.set a ⟨S,v1,I1,xD,tC,X⟩)[a]?=some ⟨S,v1,I1,xD,tC,X⟩from aQ (by rw[<-GX.out];exact ha4));have HN5:=hid (show n4=(gs1.set a ⟨S,v1,I1,xD,tC,X⟩).length by rw[aY];exact GX.out);have zm:=hid (fun(y:SD)=>show(gs1.set a ⟨S,v1,I1,xD,tC,X⟩).set a y=gs1.set a y from List.set_set _);generalize gs1.set a ⟨S,v1,I1,xD,tC,X⟩=gs2 at Eu HD3 HN5 zm;have q1:=Eu.out.cell HD3.out HN5.out;dsimp only at q1;have e0:wc.cell? ⟨wr.heap.size,0,none⟩=some (.int .i64 yk):=by rw[fu _ _ 0 _ 217 (0,0) HB3.out];rfl
     have e1:wc.cell? ⟨wr.heap.size,1,none⟩=some (.slice (some ⟨g,0,none⟩) l c):=by rw[fu _ _ 1 _ 217 (0,0) HB3.out];rfl
     have abU:=hid (fun Z (hf:Fr [] wc Z)=>Rh q P cU lv Z wB.heap.size S v1 I1 (run rs k) xD tC X yk g l c (HQ.out.s.fr (DA.out.fr.trans (iO.out.trans hf)) af) ((Eu.out.sb a _ HD3.out).iS hf) (by rw[tI.out];exact jJ (fS HH3.out (iO.out.trans hf)) rfl) tI.out (fun j hj=>by have h5:=(Rp.out.mem Yt.out (show fX (run rs k) j∈run rs k by rw[gZ (by rw[<-tI.out];exact hj)];exact aT _)).1;rw[HK.out]at h5;exact h5) sZ.out hn (a_ iO.out.size hf.size) (by omega) hh2);clear Yv Ni q0 b0 b1 s3 f3 abT hbl hSl;go_upto_region 12 with fail
     go_cut []from 18 to 84 (fun wx=>∃v',Hid (AL wx wB.heap.size q.U (.slice (some ⟨g4,0,none⟩) n4 c4) (gs1.set a ⟨S,v',I1++run rs k,xD,tC,X⟩))/\Hid (wx.ownsMap prog 3 (plainElem prog 3) wB.heap.size k D')/\Hid (wx.heap[wr.heap.size]?=some (.cells #[.int .i64 yk,.slice (some ⟨g,0,none⟩) l c] 217 (0,0)))/\Hid (Fr [] wB wx))
     case first =>
      go_region_with (first | (go_at_call 138;refine(abU.out _ ?_).mono ?_;exact iD _ _ _ rfl rfl rfl rfl;rintro e w1 ⟨rfl,⟨v',hb,hl⟩,hf⟩;have HJ:=hid ((Eu.out.iS ((Fr.refl [] wc).drew)).joined HD3.out (iO.out.drew) (nZ HM3.out ((Fr.refl [] wc).drew)) HB3.out (by decide) hb hl hf);clear hb hl hf))
      all_goals (
       go_wp2
       go_meet
       exact⟨v',hid (by rw[<-zm.out];exact HJ.out.1),hid HJ.out.2.1,hid HJ.out.2.2.1,hid HJ.out.2.2.2⟩)
     case rest =>
      obtain⟨v',ZJ,HM4,Mv,gP⟩:=hcut;have e2:wc.cell? ⟨wr.heap.size,0,none⟩=some (.int .i64 yk):=by rw[fu _ _ 0 _ 217 (0,0) Mv.out];rfl
      have e3:wc.cell? ⟨wr.heap.size,1,none⟩=some (.slice (some ⟨g,0,none⟩) l c):=by rw[fu _ _ 1 _ 217 (0,0) Mv.out];rfl
      have Yw:=hid (HQ.out.fr (DA.out.fr.trans gP.out) af af);have e4:=Yw.out.c1;have WW:=hid (show jN.partAt q.K q.n (gN (run rs k))=leads q.K (run rs k) by rw[<-HK.out,pO q.K _ (by rw[HK.out];exact Il.out)];rfl);have afZ:=hid (fun Z (hf:Fr [] wc Z)=>Hf yk g l c w.heap.size (run rs k) Z (by have h5:=fS HH3.out (gP.out.trans hf);rw[<-tI.out]at h5;exact h5) tI.out hr0 hrl);have af0:=hid (fun Z (hf:Fr [] wc Z)=>(Yw.out.fr hf af af).m.look_ok tB underlying135 (CO Z) (zd:=.lit (.int .i64 0)) (zp:=[]) (plainElem_int underlying3 (by decide)) (keyOf_int_mk underlying3 (a:=((gN (run rs k):Nat):Int)) (fB (by have:=Il.out;omega))));have QL:=hid (Yw.out.i.2 (gN (run rs k)));rw[WW.out]at QL;obtain⟨ld,hld⟩:∃ld,ld=leads q.K (run rs k):=⟨_,rfl⟩;rw[<-hld]at QL;have Yx:=hid hld;have jF:=hid (HG2.out v');generalize gs1.set a ⟨S,v',I1++run rs k,xD,tC,X⟩=gs3 at ZJ jF;clear abU q1 e0 e1 hld WW;go_upto_region 13 with fail
      go_cut [10,11]from 18 to 84 (fun v10 v11 wx=>∃c3:Int,v10=.int .i64 c3/\v11=.bool ld.isSome/\Hid (∀p,ld=some p->c3=(p:Nat))/\Hid (AL wx wB.heap.size q.U (.slice (some ⟨g4,0,none⟩) n4 c4) gs3)/\Hid (wx.ownsMap prog 3 (plainElem prog 3) wB.heap.size k D')/\Hid (Fr [] wB wx))
      case first =>
       go_region_with (first | (go_at_call 139;refine(afZ.out _ ?_).mono ?_;exact iD _ _ _ rfl rfl rfl rfl;rintro e w1 ⟨rfl,hf1⟩;have vI:Fr [] wc w1:=⟨hf1.os,hf1.tape,hf1.output,hf1.size,hf1.block⟩;have jP:=hid vI;have m4:=vI.cell e4 af;obtain⟨vv,pss,hrun,hv⟩:=af0.out w1 vI;obtain⟨c3,rfl,hc,hwc⟩:=plainElem_int_inv underlying3 hv;rw[QL.out.1]at hrun;have yA:=hid (fun p hp=>(show c3=(p:Nat) by have h5:=(congrArg Prod.fst hc).symm.trans (QL.out.2 p hp _);simpa using h5));clear hf1 vI hv hc hwc))
       all_goals (
        go_wp2
        go_meet
        exact⟨c3,rfl,rfl,yA,hid (ZJ.out.iS jP.out),hid (nZ HM4.out jP.out),hid (gP.out.trans jP.out)⟩)
      case rest =>
       obtain⟨c3,rfl,rfl,yA,WX,HM5,jP⟩:=hcut;cases ld with
       | none =>
         have ZX:=hid (show uy D' (i_ q.K rs (k+1)).aw by rw[U6 Yx.out.symm];exact HI.out);clear HG2 QL yA;go_wp2;go_roundw
         case rel=>exact⟨k+1,gs3,D',by go_num,by omega,WX,jF,hid (HM5.out.mono (by omega)),ZX,jP⟩
         case measure=>simp[intOf];omega
       | some p =>
         have hpl:=Rk Yx.out.symm;rw[HK.out]at hpl;have ZX:=hid (show uy (D'.put (kN p) (.lit (.int .i64 (a:Nat)))) (i_ q.K rs (k+1)).aw by rw[U7 Yx.out.symm,<-HOW.out];exact HI.out.put p a);obtain rfl:=yA.out p rfl;clear HG2 QL yA;go_wp2_with (at_mapUpdate;refine wpList_mapUpdate_own _ rfl _ _ _ 135 rfl 3 3 tB underlying135 _ wB.heap.size k D' rfl HM5.out (by unfold maxLen;omega) _ _ (kN p) rfl rfl (keyOf_int_mk underlying3 (fB (by omega))) (.lit (.int .i64 (a:Nat))) [] (plainElem_int underlying3 (fB (by omega))) ?_);intro w3 hown3 hgrow3;have HM6:=hid hown3;have HA6:=hid (WX.out.mapped HM5.out hgrow3);have s_:=hid (jP.out.late (Fr.kI hgrow3) (fun b hb=>by rw[aj.1 hb];exact ak _));clear hown3 hgrow3;go_wp2;go_roundw
         case rel=>exact⟨k+1,gs3,_,by go_num,by omega,HA6,jF,HM6,ZX,s_⟩
         case measure=>simp[intOf];omega
  ·have hke:k=n:=by omega
   have HGZ:=hid (show AO q.K L lv gs (ny q.K rs) by rw[<-HDV.out,<-HN.out,<-hke];exact HG.out);have sX:¬(k:Int)<(n:Int):=by omega
   clear hke HG;go_wp2;go_ret;exact⟨_,rfl,gs,wB.heap.size,HA.out,HGZ.out,hBw,DA.out.fr.trans HF.out⟩
end Go.Proofs.YtnakejhohdbfdaaGreatDoor

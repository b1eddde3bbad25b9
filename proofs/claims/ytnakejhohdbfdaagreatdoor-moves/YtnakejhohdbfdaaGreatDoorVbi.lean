import Derived.Test.YtnakejhohdbfdaaGreatDoorVbh
import Derived.Lib.AppendZerosOnto
set_option maxHeartbeats 4000000
set_option maxRecDepth 100000
namespace Go.Proofs.YtnakejhohdbfdaaGreatDoor
open Go.RowKit jN Lay uS Go.Proofs.Tryz
theorem CZ (l:List Int)(k:Nat)(x:Int):(gu l).set k (.int .i64 x)=gu (l.set k x):=by simp[gu,List.map_set]
theorem Hw (s:ByteArray)(W:List Int)(h:∀i,0<=nth W i/\nth W i<=1073741824)(i j:Nat)(hj:j<(iU s i).length):0<=nth (wl s W i) j/\nth (wl s W i) j<=i * 1073741824:=by
 rw[KJ s W i j hj];have hm:=sQ s i _ (kK (l:=iU s i) (k:=j) hj);split
 ·rename_i h1
  have hm2:=sQ s i _ (kK (l:=iU s i) (k:=j+1) h1);have h2:=pS W 1073741824 h (fX (iU s i) j) (fX (iU s i) (j+1) - fX (iU s i) j);have h3:((fX (iU s i) (j+1) - fX (iU s i) j:Nat):Int) * 1073741824<=(i:Int) * 1073741824:=b9 (by omega) (by omega);rw[wid];exact⟨h2.1,by omega⟩
 ·have h2:=pS W 1073741824 h (fX (iU s i) j) (i - fX (iU s i) j)
  have h3:((i - fX (iU s i) j:Nat):Int) * 1073741824<=(i:Int) * 1073741824:=b9 (by omega) (by omega);rw[wid];exact⟨h2.1,by omega⟩
theorem NA (s:ByteArray)(n:Nat)(b:Int)(vB:Value)(gW oW cW gT cT gL cL:Nat)(W Lv R:List Int)(w:World)(hs:s.size<=400)(hend:gJ.Ends s n)(hn:0<n)(ht:mE.TabAt w 9 iK.gD)(hW:Jf w gW oW n W)(hWb:∀i,0<=nth W i/\nth W i<=1073741824)
 (hT:∀i,i<n->w.cell? ⟨gT,i * 3,none⟩=some (.int .i32 (nth R i))/\w.cell? ⟨gT,i * 3+1,none⟩=some (.int .i64 (gJ.pos s i:Nat))/\w.cell? ⟨gT,i * 3+2,none⟩=some (.int .i64 (gJ.pos s (i+1):Nat))) (hL:rowAt w gL n Lv) :
 Calls prog 207 #[.agg #[.string s,.int .i64 b,.slice (some ⟨gW,oW,none⟩) n cW,vB],.slice (some ⟨gT,0,none⟩) n cT,.slice (some ⟨gL,0,none⟩) n cL] w fun e w'=>∃vs:Array Value,e=.returned (.agg vs)/\Hid (∃gB cB gV cV gX cX,vs=#[.slice (some ⟨gB,0,none⟩) (cn s n+1) cB,.slice (some ⟨gV,0,none⟩) (cn s n) cV,.slice (some ⟨gX,0,none⟩) (cn s n) cX]/\rowAt w' gB (cn s n+1) (bnd s n)/\rowAt w' gV (cn s n) (AU s Lv n)/\rowAt w' gX (cn s n) (wl s W n)/\w.heap.size<=gB/\w.heap.size<=gV/\w.heap.size<=gX)/\Fr [] w w':=by
 obtain⟨i3,hi3,rQ,rS,hz32⟩:=e_ info3;obtain⟨i2,hi2,PM,PN,PO⟩:=e_ Pz;have DC:n<=400:=by have:=gJ.lU s n;have:=hend.1;omega
 obtain⟨nb,hnb⟩:∃nb,nb=(bnd s n).length:=⟨_,rfl⟩;have sU:=hid hnb;have Wy:=hid (show nb=cn s n+1 by rw[hnb,j5 hend];unfold cn;have:=(jk s n).2.1;omega);have alH:0<nb:=by have:=Wy.out;omega
 have aaY:nb<=401:=by rw[hnb,j5 hend];have:=(jk s n).1;omega
 clear hnb;obtain⟨w2,hw2⟩:∃w2,w2=(w.alloc (.cells #[.string s,.int .i64 b,.slice (some ⟨gW,oW,none⟩) n cW,vB] 35)).alloc (.cells #[.slice none 0 0,.slice none 0 0,.slice none 0 0] 163):=⟨_,rfl⟩;have f_:=hid (show Fr [] w w2 by rw[hw2];exact((Fr.refl [] w).alloc _).alloc _);have kT:=hid (show w2.heap[w.heap.size]?=some (.cells #[.string s,.int .i64 b,.slice (some ⟨gW,oW,none⟩) n cW,vB] 35 (0,0)) by rw[hw2];exact fO (fU w _) ((Fr.refl [] _).alloc _) af);have acn:w2.heap.size=w.heap.size+2:=by rw[hw2];simp
 have iG:=hid (show w2.heap[w.heap.size+1]?=some (.cells #[.slice none 0 0,.slice none 0 0,.slice none 0 0] 163 (0,0)) by
  have h:=fU (w.alloc (.cells #[.string s,.int .i64 b,.slice (some ⟨gW,oW,none⟩) n cW,vB] 35)) (.cells #[.slice none 0 0,.slice none 0 0,.slice none 0 0] 163)
  rw[fI]at h;rw[hw2];exact h)
 have UD:=hid (mE.Cr s w2 (by omega) (wW ht f_.out));have HW:=hid hW;have PZ:=hid hWb;have HT:=hid hT;have HL:=hid hL;have HE:=hid hend;have k0:=fN kT.out (i:=0) (v:=.string s) rfl;clear hW hWb hT hL hend ht;go_enter func207,ntmps207;go_wp2_with fail;rw[<-hw2];refine UD.out.mono ?_;rintro e w3 ⟨n',v,hn',rfl,own,hb3⟩;obtain rfl:=gJ.jT HE.out hn';have iO:=hid (f_.out.trans (Fr.of_below (S:=[]) hb3));have AW:=hid (fO kT.out (Fr.of_below (S:=[]) hb3) af);have C8:=hid (fO iG.out (Fr.of_below (S:=[]) hb3) af);rw[<-sU.out]at own;obtain⟨gB,cB,hv⟩:=fR (by omega) own;subst hv;have wV:=hid (show rowAt w3 gB nb (bnd s n)from fun j hj=>by rw[own.cellAt j (by omega),iJ (by rw[<-sU.out];exact hj)]);have hgB:=(fZ own).2;have aco:=(fZ own).1;clear own hb3 hn' UD k0;have agx:w.heap.size+2<=w3.heap.size:=by have:=iO.out.size;have:=h_ C8.out;omega
 obtain⟨cb,hcb⟩:∃cb,cb=w3.heap.size:=⟨_,rfl⟩;have Yd:=hid hcb;clear hcb;go_wp2_with fail;go_loopw [16] (fun ii wr=>∃(i k:Nat) (vV vX:Value),ii=.int .i64 i/\i<=n/\Hid (k=(iU s i).length)/\Hid (wr.heap[w3.heap.size]?=some (.cells #[.slice (some ⟨gB,0,none⟩) nb cB,vV,vX] 163 (0,0)))/\Hid (wr.ownsRow (w3.heap.size+1) 3 1 vV k (gu (AU s Lv i)))/\Hid (wr.ownsRow (w3.heap.size+1) 2 1 vX k (gu (wl s W i)))/\Hid (Fr [] w3 wr)) (fun ii _=>n - (intOf ii).toNat)
 case atStart=>exact⟨0,0,.slice none 0 0,.slice none 0 0,rfl,aH _,hid rfl,hid (fU w3 _),hid ⟨rfl,.inl ⟨rfl,rfl⟩⟩,hid ⟨rfl,.inl ⟨rfl,rfl⟩⟩,hid ((Fr.refl [] w3).alloc _)⟩
 case round =>
  obtain⟨i,k,vV,vX,rfl,hin,HK,DX,HV,HX,HF⟩:=hrel;have Ad:=hid (iO.out.trans HF.out);obtain⟨aV,cV,hvV⟩:=gA HV.out;subst hvV;obtain⟨aX,cX,NB⟩:=gA HX.out;subst NB;by_cases hil:i<n
  ·have sY:(i:Int)<(n:Int):=by omega
   obtain⟨q0,q1,q2⟩:=HT.out i hil;have q0':=Ad.out.cell q0 af;have q1':=Ad.out.cell q1 af;have q2':=Ad.out.cell q2 af;have hkb:k<nb:=by rw[HK.out,sU.out,j5 HE.out];exact Au hin hn
   have sX:(k:Int)<(nb:Int):=by omega
   have b0:=HF.out.cell (wV.out k hkb) af;have r_:=hid (by have h:=RY (s:=s) HE.out hn hil;rw[<-HK.out]at h;exact h);have c0:=fN DX.out (i:=0) (v:=.slice (some ⟨gB,0,none⟩) nb cB) rfl;have c1:=fN DX.out (i:=1) (v:=.slice aV k cV) rfl;have c2:=fN DX.out (i:=2) (v:=.slice aX k cX) rfl;have l0:=HL.out.fr Ad.out af i hil;clear q0 q1 q2;generalize nth R i=r0 at *;generalize gJ.pos s i=p0 at *;generalize gJ.pos s (i+1)=p1 at *;generalize nth (bnd s n) k=bk at *;have YV:=eS _ _ b0;have YW:=eS _ _ c0;have Vw:=eS _ _ l0;dsimp only at YV YW Vw;by_cases hbg:A5 s i=true
   ·rw[hbg]at r_
    have hpe:=r_.out;go_wp2_with fail;go_quiet (fail);go_wp2_with fail;obtain⟨w5,qC⟩:∃w5,w5=(wr.alloc (.cells #[.int .i32 r0,.int .i64 ((p0:Nat):Int),.int .i64 ((p1:Nat):Int)] 94)).drewN nq:=⟨_,rfl⟩;have nA:=hid (show Fr [] wr w5 by rw[qC];exact((Fr.refl [] wr).alloc _).trans (jr _ _));rw[<-qC];clear qC b0 c0 q0' q1' q2' YV YW Vw;have Vy:=hid (fO DX.out nA.out af);have l5:=nA.out.cell l0 af;have c15:=fN Vy.out (i:=1) (v:=.slice aV k cV) rfl;have f15:=fT Vy.out 1;have HV5:=hid (fS HV.out nA.out);have xg:=hid (fS HX.out nA.out);have agy:=h_ Vy.out;have acr:=eS _ _ l5;have agz:=eS _ _ (HL.out i hil);dsimp only at acr agz;have HVG:=hid (fun g (hg:(Value.slice aV k cV).ownBlock=some g)=>(HV.out.lt g hg).1);clear l0 c1 c2;have HLY:=hid (Vu (Lv:=Lv) hbg);generalize nth Lv i=lv at *
    have HKP:=hid (fun(w1' w':World) (hf:Fr [] w5 w1') (hg:w1'.grownBy w' (Value.slice aV k cV).ownBlock)=>show w'.heap[w3.heap.size]?=some (.cells #[.slice (some ⟨gB,0,none⟩) nb cB,.slice aV k cV,.slice aX k cX] 163 (0,0))/\w'.cell? ⟨gL,i,none⟩=some (.int .i64 lv)from
     ⟨(hg.block w3.heap.size (by have:=hf.size;omega) (fun e=>by have:=HVG.out _ e.symm;omega)).trans (fO Vy.out hf af),(World.cell?_of_block (a:=⟨gL,i,none⟩) (hg.block gL (by have:=hf.size;omega) (fun e=>by have:=HVG.out _ e.symm;omega))).trans (hf.cell l5 af)⟩)
    go_region_law (refine GC rfl (.tmp 32) (.tmp 37) 22 rfl (w3.heap.size+1) 3 i3 _ 1 8 underlying22 hi3 rQ rS hz32 rfl (by decide) (.slice aV k cV) k (gu (AU s Lv i)) ?q1 ?q2 ⟨w5.heap.size,0,none⟩ 1 1 [.int .i64 lv] ?q3 rfl ?q4 (one_cell _) (by unfold maxLen;omega) (by omega) ?q5 ?_;(case q1=>simp[Act.eval]);(case q2=>exact fS HV5.out (((Fr.refl [] w5).drew).alloc _));(case q3=>simp[Act.eval]);(case q4=>exact iC _ _ _ _ (by simp));(case q5=>simp;omega);intro v' w' hown hgrow;obtain⟨g',c',hv'⟩:=fR (by omega) hown;subst hv';have HV6:=hid hown;have jv:=hid hgrow;have Ts:=hid (HKP.out _ _ (((Fr.refl [] w5).drew).alloc _) hgrow).1;have c16:=fN Ts.out (i:=1) (v:=.slice aV k cV) rfl;have f16:=fT Ts.out 1;clear hown hgrow)
    all_goals (
     obtain⟨w6,nu⟩:∃w6,w6=w'.setCell ⟨w3.heap.size,1,none⟩ (.slice (some ⟨g',0,none⟩) (k+1) c'):=⟨_,rfl⟩
     rw[<-nu]
     have RZ:=hid (show w6.heap[w3.heap.size]?=some (.cells #[.slice (some ⟨gB,0,none⟩) nb cB,.slice (some ⟨g',0,none⟩) (k+1) c',.slice aX k cX] 163 (0,0)) by rw[nu];exact fP Ts.out 1 _)
     have HKS:=hid (show ∀(e:TypeId) (_:e≠163) g,some w3.heap.size=some g->∃cs t f,w'.heap[g]?=some (.cells cs t f)/\t≠e from fun e he g hv=>by cases hv;exact⟨_,_,_,Ts.out,fun e=>he e.symm⟩)
     have HV7:=hid (show w6.ownsRow (w3.heap.size+1) 3 1 (.slice (some ⟨g',0,none⟩) (k+1) c') (k+1) (gu (AU s Lv (i+1))) by
      rw[HLY.out,<-mh,nu];exact iV HV6.out (mH (b:=w3.heap.size)) (HKS.out _ (by decide)))
     have HX7:=hid (show w6.ownsRow (w3.heap.size+1) 2 1 (.slice aX k cX) k (gu (wl s W i)) by
      rw[nu]
      refine iV (iV (fS xg.out (((Fr.refl [] w5).drew).alloc _)) jv.out (fun g hg=>?_)) (mH (b:=w3.heap.size)) (HKS.out _ (by decide))
      obtain⟨cs,t',f',h5,h6⟩:=ko (fS HV5.out (((Fr.refl [] w5).drew).alloc (.cells #[.int .i64 lv] 3))) hg
      exact⟨cs,t',f',h5,by rw[h6];decide⟩)
     have m7:=hid (show Fr [] w3 w6 by
      rw[nu]
      exact(((HF.out.trans nA.out).trans (((Fr.refl [] w5).drew).alloc (.cells #[.int .i64 lv] 3))).grown jv.out (fun g hg=>by have:=HVG.out g hg;omega)).fQ (ak _))
     clear nu c15 f15 c16 f16 l5 agy acr
     have c27:=fN RZ.out (i:=2) (v:=.slice aX k cX) rfl
     have alM:=h_ RZ.out
     have HXG:=hid (fun g (hg:(Value.slice aX k cX).ownBlock=some g)=>(HX.out.lt g hg).1)
     have agB:=hid (fun(o:Obj)=>fO RZ.out ((Fr.refl [] w6).alloc o) af)
     have alN:w3.heap.size≠w6.heap.size:=by omega
     go_wp2_with (at_builtin;refine eV _ rfl _ _ 49 rfl (w3.heap.size+1) 2 i2 _ 1 8 underlying49 hi2 PM PN PO rfl (by decide) _ k (gu (wl s W i)) rfl ?own _ 1 1 [.int .i64 0] rfl rfl (iC _ _ _ _ (by simp)) (one_cell _) (by unfold maxLen;omega) (by omega) ?nY ?_)
     case own=>exact HX7.out.alloc _
     case nY=>simp;omega
     intro v8 w8 R1 J0 acs
     obtain⟨g8,c8,hv8⟩:=fR (by omega) R1
     subst hv8
     have HXo:=hid R1
     have HXg:=hid J0
     have W_:=hid (show w8.heap[w3.heap.size]?=some (.cells #[.slice (some ⟨gB,0,none⟩) nb cB,.slice (some ⟨g',0,none⟩) (k+1) c',.slice aX k cX] 163 (0,0))from(J0.block w3.heap.size (by simp;omega) (fun e=>by have:=HXG.out _ e.symm;omega)).trans (agB.out _))
     have c28:=fN W_.out (i:=2) (v:=.slice aX k cX) rfl
     have f28:=fT W_.out 2
     clear R1 J0 acs c27
     obtain⟨w9,Tt⟩:∃w9,w9=w8.setCell ⟨w3.heap.size,2,none⟩ (.slice (some ⟨g8,0,none⟩) (k+1) c8):=⟨_,rfl⟩
     have Xz:=hid (show w9.heap[w3.heap.size]?=some (.cells #[.slice (some ⟨gB,0,none⟩) nb cB,.slice (some ⟨g',0,none⟩) (k+1) c',.slice (some ⟨g8,0,none⟩) (k+1) c8] 163 (0,0)) by rw[Tt];exact fP W_.out 2 _)
     have HKT:=hid (show ∀(e:TypeId) (_:e≠163) g,some w3.heap.size=some g->∃cs t f,w8.heap[g]?=some (.cells cs t f)/\t≠e from fun e he g hv=>by cases hv;exact⟨_,_,_,W_.out,fun e=>he e.symm⟩)
     have R4:=hid (show w9.ownsRow (w3.heap.size+1) 2 1 (.slice (some ⟨g8,0,none⟩) (k+1) c8) (k+1) (gu (wl s W i++[0])) by
      rw[<-mh,Tt];exact iV HXo.out (mH (b:=w3.heap.size)) (HKT.out _ (by decide)))
     have HV9:=hid (show w9.ownsRow (w3.heap.size+1) 3 1 (.slice (some ⟨g',0,none⟩) (k+1) c') (k+1) (gu (AU s Lv (i+1))) by
      rw[Tt]
      refine iV (iV (HV7.out.alloc _) HXg.out (fun g hg=>?_)) (mH (b:=w3.heap.size)) (HKT.out _ (by decide))
      obtain⟨cs,t',f',h5,h6⟩:=ko (HX7.out.alloc (.cells #[.int .i64 0] 2)) hg
      exact⟨cs,t',f',h5,by rw[h6];decide⟩)
     have DM:=hid (show Fr [] w3 w9 by
      rw[Tt]
      exact((m7.out.alloc (.cells #[.int .i64 0] 2)).grown HXg.out (fun g hg=>by have:=HXG.out g hg;omega)).fQ (ak _))
     have HW9:=hid Tt
     clear Tt
     go_wp2_with fail
     rw[<-HW9.out]
     clear c28 f28
     have YX:=hid (iO.out.trans DM.out)
     have c29:=fN Xz.out (i:=2) (v:=.slice (some ⟨g8,0,none⟩) (k+1) c8) rfl
     have hkl:k=(wl s W i).length:=by rw[t_];exact HK.out
     have Ez:=hid hkl
     clear hkl
     have x9:=R4.out.cellAt k (by omega)
     rw[iJ (by rw[aG,<-Ez.out];simp),show nth (wl s W i++[0]) k=0 by rw[Ez.out];simp[nth]]at x9
     have xf9:=R4.out.frozenAt k
     have m9:=fN (fO AW.out DM.out af) (i:=2) (v:=.slice (some ⟨gW,oW,none⟩) n cW) rfl
     have ww:=HW.out.fr YX.out af i hil
     have hwi:=PZ.out i
     have HWY:=hid (YU (W:=W) hbg)
     generalize nth W i=wi at *
     have hk1:((k+1:Nat):Int) - 1=(k:Int):=by omega
     have hk2:(k:Int)+1 - 1=(k:Int):=by omega
     have hkk:(k:Int)<(k:Int)+1:=by omega
     have agD:IntKind.i64.wrap (0+wi)=wi:=by rw[eT];omega
     have hwr2:IntKind.i64.wrap wi=wi:=by rw[eT];omega
     go_region
     have hst:=R4.out.stored k (.int .i64 wi)
     have HXZ:=hid (show(w9.setCell ⟨g8,k,none⟩ (.int .i64 wi)).drew.ownsRow (w3.heap.size+1) 2 1 (.slice (some ⟨g8,0,none⟩) (k+1) c8) (k+1) (gu (wl s W (i+1))) by
      rw[HWY.out,<-Ez.out,Int.zero_add,<-CZ];exact fS hst.1 ((Fr.refl [] _).drew))
     have HVZ:=hid (show(w9.setCell ⟨g8,k,none⟩ (.int .i64 wi)).drew.ownsRow (w3.heap.size+1) 3 1 (.slice (some ⟨g',0,none⟩) (k+1) c') (k+1) (gu (AU s Lv (i+1))) by
      refine fS (iV HV9.out hst.2 (fun g hg=>?_)) ((Fr.refl [] _).drew)
      cases hg
      obtain⟨cs,t',f',h5,h6⟩:=ko R4.out (g:=g8) rfl
      exact⟨cs,t',f',h5,by rw[h6];decide⟩)
     have hg8:=(fZ R4.out).1
     have HOZ:=hid (fO Xz.out (((Fr.kI hst.2).trans ((Fr.refl [g8] _).drew))) (fun h=>by have:=aj.1 h;omega))
     have Ay:=hid (show Fr [] w3 (w9.setCell ⟨g8,k,none⟩ (.int .i64 wi)).drew from(DM.out.fQ (by omega)).drew)
     have HKZ:=hid (show k+1=(iU s (i+1)).length by rw[mS hbg,aG,<-HK.out];rfl)
     clear hst
     go_wp2
     go_roundw
     case rel=>exact⟨i+1,k+1,_,_,by go_num,by omega,HKZ,HOZ,HVZ,HXZ,Ay⟩
     case measure=>simp[intOf];omega)
   ·have R5:A5 s i=false:=by cases h:A5 s i with | false=>rfl | true=>exact absurd h hbg
    rw[R5]at r_;have hpe:=r_.out;obtain⟨km,hkm⟩:∃km,k=km+1:=⟨k - 1,by have:=EO s (Vv R5);rw[<-HK.out]at this;omega⟩;subst hkm;obtain⟨gX,cX',NB⟩:=fR (by omega) HX.out;cases NB;go_wp2_with fail;go_quiet (fail);go_wp2_with fail;obtain⟨w9,Tt⟩:∃w9,w9=(wr.alloc (.cells #[.int .i32 r0,.int .i64 ((p0:Nat):Int),.int .i64 ((p1:Nat):Int)] 94)).drewN nq:=⟨_,rfl⟩;have vY:=hid (show Fr [] wr w9 by rw[Tt];exact((Fr.refl [] wr).alloc _).trans (jr _ _));rw[<-Tt];clear Tt b0 c0 c1 c2 q0' q1' q2' YV YW Vw l0;have Xz:=hid (fO DX.out vY.out af);have R4:=hid (fS HX.out vY.out);have HV9:=hid (fS HV.out vY.out);have DM:=hid (HF.out.trans vY.out);have YX:=hid (iO.out.trans DM.out);have c29:=fN Xz.out (i:=2) (v:=.slice (some ⟨gX,0,none⟩) (km+1) cX) rfl;have Ez:=hid (show km+1=(wl s W i).length by rw[t_];exact HK.out);have x9:=R4.out.cellAt km (by omega);rw[iJ (by rw[<-Ez.out];omega)]at x9;have xf9:=R4.out.frozenAt km;have m9:=fN (fO AW.out DM.out af) (i:=2) (v:=.slice (some ⟨gW,oW,none⟩) n cW) rfl;have ww:=HW.out.fr YX.out af i hil;have hwi:=PZ.out i;have HWN:=hid (show wl s W (i+1)=(wl s W i).set km (nth (wl s W i) km+nth W i) by rw[acm R5,<-Ez.out];rfl);have hxb:=Hw s W PZ.out i km (by rw[<-HK.out];omega);have hxc:nth (wl s W i) km<=429496729600:=by
     have h5:(i:Int) * 1073741824<=400 * 1073741824:=b9 (by omega) (by omega);omega
    have hxd:=hxb.1;clear hxb;generalize nth W i=wi at *;generalize nth (wl s W i) km=xk at *;have hk1:((km+1:Nat):Int) - 1=(km:Int):=by omega
    have hk2:(km:Int)+1 - 1=(km:Int):=by omega
    have hkk:(km:Int)<(km:Int)+1:=by omega
    have agD:IntKind.i64.wrap (xk+wi)=xk+wi:=by rw[eT];omega
    go_region;have hst:=R4.out.stored km (.int .i64 (xk+wi))
    have HXZ:=hid (show(w9.setCell ⟨gX,km,none⟩ (.int .i64 (xk+wi))).drew.ownsRow (w3.heap.size+1) 2 1 (.slice (some ⟨gX,0,none⟩) (km+1) cX) (km+1) (gu (wl s W (i+1))) by
     rw[HWN.out,<-CZ];exact fS hst.1 ((Fr.refl [] _).drew))
    have HVZ:=hid (show(w9.setCell ⟨gX,km,none⟩ (.int .i64 (xk+wi))).drew.ownsRow (w3.heap.size+1) 3 1 (.slice aV (km+1) cV) (km+1) (gu (AU s Lv (i+1))) by
     rw[YT R5]
     refine fS (iV HV9.out hst.2 (fun g hg=>?_)) ((Fr.refl [] _).drew)
     cases hg
     obtain⟨cs,t',f',h5,h6⟩:=ko R4.out (g:=gX) rfl
     exact⟨cs,t',f',h5,by rw[h6];decide⟩)
    have hg8:=(fZ R4.out).1;have HOZ:=hid (fO Xz.out (((Fr.kI hst.2).trans ((Fr.refl [gX] _).drew))) (fun h=>by have:=aj.1 h;omega));have Ay:=hid (show Fr [] w3 (w9.setCell ⟨gX,km,none⟩ (.int .i64 (xk+wi))).drew from(DM.out.fQ (by omega)).drew);have HKZ:=hid (show km+1=(iU s (i+1)).length by rw[oM R5,<-HK.out]);clear hst;go_wp2;go_roundw
    case rel=>exact⟨i+1,km+1,_,_,by go_num,by omega,HKZ,HOZ,HVZ,HXZ,Ay⟩
    case measure=>simp[intOf];omega
  ·obtain rfl:i=n:=by omega
   have sY:¬(i:Int)<(i:Int):=by omega
   have A6:=hid (fO C8.out HF.out af);have c0:=fN DX.out (i:=0) (v:=.slice (some ⟨gB,0,none⟩) nb cB) rfl;have c1:=fN DX.out (i:=1) (v:=.slice aV k cV) rfl;have c2:=fN DX.out (i:=2) (v:=.slice aX k cX) rfl;have r0:=fN A6.out (i:=0) (v:=.slice none 0 0) rfl;have r1:=fN A6.out (i:=1) (v:=.slice none 0 0) rfl;have r2:=fN A6.out (i:=2) (v:=.slice none 0 0) rfl;have rf0:=fT A6.out 0;have rf1:=fT A6.out 1;have rf2:=fT A6.out 2;have hne:w3.heap.size≠w.heap.size+1:=by omega
   have Z4:=hid (show k=cn s i by rw[oN hn];exact HK.out);have hk0:0<k:=by have:=EO s hn;rw[<-HK.out]at this;exact this
   obtain⟨gV,cV',hvV⟩:=fR hk0 HV.out;cases hvV;obtain⟨gX,cX',NB⟩:=fR hk0 HX.out;cases NB;have qi:=hid (show(((wr.setCell ⟨w.heap.size+1,0,none⟩ (.slice (some ⟨gB,0,none⟩) nb cB)).setCell ⟨w.heap.size+1,1,none⟩ (.slice (some ⟨gV,0,none⟩) k cV)).setCell ⟨w.heap.size+1,2,none⟩ (.slice (some ⟨gX,0,none⟩) k cX)).heap[w.heap.size+1]?=some (.cells #[.slice (some ⟨gB,0,none⟩) nb cB,.slice (some ⟨gV,0,none⟩) k cV,.slice (some ⟨gX,0,none⟩) k cX] 163 (0,0))from fP (fP (fP A6.out 0 _) 1 _) 2 _);have DY:=hid (show Fr [w.heap.size+1] wr (((wr.setCell ⟨w.heap.size+1,0,none⟩ (.slice (some ⟨gB,0,none⟩) nb cB)).setCell ⟨w.heap.size+1,1,none⟩ (.slice (some ⟨gV,0,none⟩) k cV)).setCell ⟨w.heap.size+1,2,none⟩ (.slice (some ⟨gX,0,none⟩) k cX))from((((Fr.refl [w.heap.size+1] wr).set (aj.2 rfl) _).set (aj.2 rfl) _).set (aj.2 rfl) _));go_wp2_with fail;have agG:gB≠w.heap.size+1:=by have:=aco;omega
   refine eU (eW (t:=163) (fr:=(0,0)) rfl _ _ (w.heap.size+1) _ _ rfl qi.out underlying163 rfl (by kernel_rfl)) rfl ?_;have hgV:=(fZ HV.out).1;have hgX:=(fZ HX.out).1;refine⟨_,rfl,hid ⟨gB,cB,gV,cV,gX,⟨cX,by rw[<-Z4.out,show k+1=nb by have:=Wy.out;have:=Z4.out;omega]⟩,?_,?_,?_,by omega,by omega,by omega⟩,(((Ad.out.mono (fun _ h _=>absurd h af):Fr [w.heap.size+1] w wr).trans DY.out).mono (fun x hx hlt=>by have:=aj.1 hx;omega))⟩
   ·rw[<-Wy.out];exact(wV.out.fr HF.out af).fr DY.out (fun h=>agG (aj.1 h))
   ·intro j hj
    refine DY.out.cell ?_ (fun h=>by have:=aj.1 h;omega);rw[HV.out.cellAt j (by have:=Z4.out;omega),iJ (by rw[vw,<-HK.out];have:=Z4.out;omega)]
   ·intro j hj
    refine DY.out.cell ?_ (fun h=>by have:=aj.1 h;omega);rw[HX.out.cellAt j (by have:=Z4.out;omega),iJ (by rw[t_,<-HK.out];have:=Z4.out;omega)]
theorem J1 (c:Int)(w:World) :
 Calls prog 228 #[.int .i64 c] w fun e w'=>e=.returned (.bool (trail c))/\w'=w:=by
 have HT:=hid (show trail c=((c == 12) || ((j6 c || c == 22) || gone c)) by unfold trail;cases (c == 12) <;> cases j6 c <;> cases (c == 22) <;> cases gone c <;> rfl);obtain⟨R,hR⟩:∃R,R=trail c:=⟨_,rfl⟩;rw[<-hR]at HT ⊢;have H1:=hid (fun X:World=>GH c X);have H2:=hid (fun X:World=>Ce c X);clear hR;generalize (j6 c || c == 22)=p at *;generalize gone c=q at *;by_cases h:c=12
 ·have hb:(c == 12)=true:=by simp[h]
  rw[hb]at HT;go_enter func228,ntmps228;go_wp2_with fail;go_ret;exact⟨by rw[HT.out];rfl,rfl⟩
 ·have hb:(c == 12)=false:=by simp[h]
  rw[hb]at HT;cases p
  ·go_enter func228,ntmps228
   go_wp2_with (first | (go_at_call 188;refine(H1.out _).mono ?_;rintro e w1 ⟨rfl,rfl⟩) | (go_at_call 158;refine(H2.out _).mono ?_;rintro e w1 ⟨rfl,rfl⟩));go_ret;exact⟨by rw[HT.out];simp,rfl⟩
  ·go_enter func228,ntmps228
   go_wp2_with (first | (go_at_call 188;refine(H1.out _).mono ?_;rintro e w1 ⟨rfl,rfl⟩) | (go_at_call 158;refine(H2.out _).mono ?_;rintro e w1 ⟨rfl,rfl⟩));go_ret;exact⟨by rw[HT.out];simp,rfl⟩
theorem J2 {s:ByteArray}{n:Nat}(h:gJ.Ends s n){i j:Nat}(hij:i<j)(hj:j<(jw s n).length):nth (bnd s n) i<nth (bnd s n) j:=by
 rw[mJ h (by omega),mJ h hj];have:=gJ.kY s _ _ (qT (kR s n) hij hj);omega
theorem K8 {l:List Int}{k:Nat}(h:k<l.length):nth l k∈l:=by
 rw[nth,az h];exact aT _
theorem R6 {s:ByteArray}{n:Nat}(h:gJ.Ends s n){k:Nat}(hk:k<(jw s n).length):cidx (bnd s n) (nth (bnd s n) k)=k:=by
 have hl:=j5 h;obtain⟨h1,h2⟩:=A8 (lP h) (x:=nth (bnd s n) k) (by simpa using K8 (l:=bnd s n) (by omega));rw[<-qg]at h2
 rcases bT (cidx (bnd s n) (nth (bnd s n) k)) k with h3 | h3 | h3
 ·have:=J2 h h3 hk;omega
 ·exact h3
 ·have:=J2 h h3 (by omega);omega
def C9 (s:ByteArray)(Br:List Int):List Int:=0 :: (Br++[((s.size:Nat):Int)])
theorem pN (s:ByteArray)(Br:List Int):(C9 s Br).length=Br.length+2:=by simp[C9]
theorem zG {s:ByteArray}{n:Nat}(h:gJ.Ends s n){Br:List Int}(E:qN s n Br){k:Nat}(hk:k<=Br.length+1):nth (C9 s Br) k=nth (bnd s n) (jc s n Br k):=by
 have hc:jc s n Br k<(jw s n).length:=by
  have h8:=E.le k hk;have h9:=(jk s n).2.1;have:cn s n<(jw s n).length:=by { unfold cn;omega };unfold jc;omega
 rw[mJ h hc]
 rcases aS k with h0 | h0
 ·subst h0
  rw[show jc s n Br 0=0 from E.e0,Ca];simp[nth,C9,gJ.pos]
 ·obtain⟨j,rfl⟩:∃j,k=j+1:=⟨k - 1,by omega⟩
  rcases aA (show j<=Br.length by omega)with h1 | h1
  ·rw[show((gJ.pos s (fX (jw s n) (jc s n Br (j+1))):Nat):Int)=nth Br j from E.at_ j h1]
   simp[nth,C9,aJ h1]
  ·subst h1
   rw[show jc s n Br (Br.length+1)=cn s n from E.eN,kL];simp[nth,C9];exact congrArg Int.ofNat h.1.symm
theorem yF {s:ByteArray}{n:Nat}(h:gJ.Ends s n){Br:List Int}(E:qN s n Br){k:Nat}(hk:k<=Br.length+1):cidx (bnd s n) (nth (C9 s Br) k)=jc s n Br k:=by
 rw[zG h E hk];refine R6 h ?_;have h8:=E.le k hk;have h9:=(jk s n).2.1;have:cn s n<(jw s n).length:=by { unfold cn;omega };unfold jc;omega
theorem C_ {f g:Nat->Int}{o:List Nat}:∀k,(∀j,j<k->f (fX o j)=g (fX o j))->o_ f o k=o_ g o k
 | 0,_=>rfl
 | k+1,h=>by rw[o_,o_,C_ k (fun j hj=>h j (by omega)),h k (by omega)]
theorem R7 {f g:Nat->Int}{o:List Nat}{k:Nat}(h:∀j,j<k->f (fX o j)=g (fX o j)):xs f o k=xs g o k:=by
 rw[xs,xs];refine List.map_congr_left (fun j hj=>?_);exact C_ j (fun i hi=>h i (by have:=bS.1 hj;omega))
theorem J3 {s:ByteArray}{n:Nat}(h:gJ.Ends s n)(hn:0<n){Br:List Int}(E:qN s n Br)(bs:Int)(W Lv:List Int)(hL:∀i,i<n->nth Lv i=qD s n bs Br i):zn (bnd s n) (AU s Lv n) (wl s W n) (C9 s Br) (Br.length+1)=AR s n bs W Br (Br.length+1):=by
 rw[zn,AR];refine List.map_congr_left (fun j hj=>?_);have hj:=bS.1 hj;have hb:=E.le (j+1) (by omega);have hab:=E.mono j (j+1) (by omega) (by omega);have hlv:∀k,k<cn s n->nth (AU s Lv n) k=qD s n bs Br (fX (jw s n) k):=fun k hk=>by
  have hk':k<(iU s n).length:=by rw[<-oN hn];exact hk
  rw[JZ hk',<-Cb hn hk',hL];have:=qT (kR s n) hk (by have:=(jk s n).2.1;unfold cn;omega);rw[kL]at this;exact this
 unfold lnP yf;rw[yF h E (show j<=Br.length+1 by omega),yF h E (show j+1<=Br.length+1 by omega)];have hlen:=(jk s n).2.1;have hcn:cn s n<(jw s n).length:=by unfold cn;omega
 have ho:mG (fun t=>nth (AU s Lv n) (jc s n Br j+t)) (jc s n Br (j+1) - jc s n Br j)=mG (fun t=>qD s n bs Br (fX (jw s n) (jc s n Br j+t))) (jc s n Br (j+1) - jc s n Br j) :=
  Cj (fun t ht=>hlv _ (by unfold jc at *;omega))
 dsimp only;rw[ho,zG h E (show j<=Br.length+1 by omega),zG h E (show j+1<=Br.length+1 by omega),mJ h (by unfold jc;omega),mJ h (by unfold jc;omega)]
 congr 1
 refine R7 (fun t ht=>?_);have ht':t<(mG (fun t=>qD s n bs Br (fX (jw s n) (jc s n Br j+t))) (jc s n Br (j+1) - jc s n Br j)).length:=by rw[oY];exact ht
 rw[Fp ht'];have hlt:=xS _ _ _ (kK ht');exact Wu hn W (by unfold jc at *;omega)
theorem R8 (n:Nat)(w:World)(h0:0<n)(hn:n<=10000):Calls prog 226 #[.slice none 0 0,.int .i64 n] w fun e w'=>∃g c,e=.returned (.slice (some ⟨g,0,none⟩) 0 c)/\w'.ownsRow w.heap.size 3 1 (.slice (some ⟨g,0,none⟩) 0 c) 0 []/\Fr [] w w':=by
 have tb:Tryz.t3.bytes=8:=by kernel_rfl
 have hfit:=growslice_fits (old:=0) h0 (show n * 8<=140737488355328 by omega);have hA:¬(281474976710656:Int)<(n:Int) * (Tryz.t3.bytes:Int):=by rw[tb];omega
 have hB:¬ 281474976710656<Builtin.nextslicecap n 0 * Tryz.t3.bytes:=by rw[tb];omega
 have hge:=grownCap_ge w n 0 3;have hle:=grownCap_le_maxLen w n 0 3 (by unfold maxLen;omega)
 have HO:=hid (show ∀cs:Array Value,cs.size=grownCap w n 0 3->((w.alloc (.cells cs 3)).drew).ownsRow w.heap.size 3 1 (.slice (some ⟨w.heap.size,0,none⟩) 0 (grownCap w n 0 3)) 0 []from fun cs hcs =>
  ⟨rfl,.inr ⟨w.heap.size,_,cs,rfl,ak _,fU w _,aH _,hle,by omega,by simp⟩⟩)
 have h1:¬((n:Int)<0):=by omega
 have h4:(0:Int)<(n:Int):=by omega
 have h5:¬n=0:=by omega
 have O4:=hid hge;clear tb hfit hge hle;go_enter func226,ntmps226;go_wp2;go_ret;exact⟨_,_,rfl,HO.out _ (by rw[Array.size_append,size_zeroCells,size_zeroCells];have:=O4.out;show n * 1+(grownCap w n 0 3 - n) * 1=grownCap w n 0 3;omega),Om w _⟩
def mT (w:World)(v:Value)(l:List Int):Prop:=∃a c,v=.slice a l.length c/\((a=none/\c=0/\l.length=0)\/∃ad:Addr,a=some ad/\∀i,i<l.length->w.cell? (ad.add i)=some (.int .i64 (nth l i)))
theorem cell_spot {w:World}{a:Addr}{v:Value}(h:w.cell? a=some v):a=⟨a.block,a.off,none⟩:=by
 obtain⟨b,o,sp⟩:=a;cases sp with
 | none=>rfl
 | some x =>
   unfold World.cell? at h;split at h
   ·simp at h
   ·cases h
theorem R9 {w w':World}{a:Addr}{v:Value}(hf:Fr [] w w')(h:w.cell? a=some v):w'.cell? a=some v:=by
 have e:=cell_spot h;rw[e]at h ⊢;exact hf.cell h af
theorem mT.fr {w w':World}{v:Value}{l:List Int}(h:mT w v l)(hf:Fr [] w w'):mT w' v l:=by
 obtain⟨a,c,h1,h2⟩:=h;refine⟨a,c,h1,h2.imp id ?_⟩;rintro ⟨ad,h3,h4⟩;exact⟨ad,h3,fun i hi=>R9 hf (h4 i hi)⟩
theorem mT.at {w:World}{v:Value}{l:List Int}(h:mT w v l):mA w v l:=by
 obtain⟨a,c,h1,h2⟩:=h;refine⟨a,c,h1,?_⟩
 rcases h2 with⟨_,_,h3⟩ | ⟨ad,rfl,h4⟩
 ·exact .inl h3
 ·by_cases h0:l.length=0
  ·exact .inl h0
  ·have e:=cell_spot (h4 0 (by omega))
   have e0:ad.add 0=ad:=rfl;rw[e0]at e;obtain⟨b,o,sp⟩:=ad;simp only[Addr.mk.injEq,true_and]at e;subst e;exact .inr ⟨b,o,rfl,fun i hi=>by have:=h4 i hi;rwa [Addr.add_lit]at this⟩
def jV (L:Nat->List Int):Nat->List Int
 | 0=>[]
 | k+1=>jV L k++L k
theorem Da (L:Nat->List Int):∀ {k j:Nat},k<=j->(jV L k).length<=(jV L j).length
 | k,0,h=>by obtain rfl:k=0:=by omega
             exact ak _
 | k,j+1,h=>by
   rcases aA h with h1 | h1
   ·have:=Da L (k:=k) (j:=j) (by omega);rw[jV,aG];omega
   ·rw[h1];exact ak _
theorem Db (l:List Int):∀u∈gu l,u.oneCell'=true:=by
 intro u hu;obtain⟨x,_,rfl⟩:=dP.1 hu;rfl
theorem J4 (L:Nat->List Int)(H:Nat->Value)(gs cs m:Nat)(w:World)(hm:m<=10)(hc:∀i,i<m->w.cell? ⟨gs,i,none⟩=some (H i))(hs:∀i,i<m->mT w (H i) (L i))(h0:0<(jV L m).length)(hl:(jV L m).length<=6000) :
 Calls prog 205 #[.slice (some ⟨gs,0,none⟩) m cs] w fun e w'=>∃g c,e=.returned (.slice (some ⟨g,0,none⟩) (jV L m).length c)/\w'.ownsRow w.heap.size 3 1 (.slice (some ⟨g,0,none⟩) (jV L m).length c) (jV L m).length (gu (jV L m))/\Fr [] w w':=by
 obtain⟨i0,hi,hz0,hz1,hz2⟩:=e_ info3;have HC:=hid hc;have HS:=hid hs;have HG:=hid (fun X=>R8 (jV L m).length X h0 (by omega));have HCM:=hid (fun k (hk:k<=m)=>Da L hk);obtain⟨N,hN⟩:∃N,N=(jV L m).length:=⟨_,rfl⟩;rw[<-hN]at h0 hl HG HCM ⊢;have HN:=hid hN;clear hc hs hN;go_enter func205,ntmps205;go_wp2_with fail;go_loop [3,11] (fun zz kk=>∃k:Nat,kk=.int .i64 k/\k<=m/\zz=.int .i64 ((jV L k).length:Nat)) (fun _ kk=>m - (intOf kk).toNat)
 case atStart=>exact⟨0,rfl,aH _,rfl⟩
 case round =>
  obtain⟨k,rfl,hkm,rfl⟩:=hrel;by_cases hkl:k<m
  ·have sX:(k:Int)<(m:Int):=by omega
   have d0:=HC.out k hkl;obtain⟨a,c,hH,_⟩:=HS.out k hkl;rw[hH]at d0;have h1:=HCM.out (k+1) (by omega);have mN:=hid (show(jV L (k+1)).length=(jV L k).length+(L k).length by rw[jV,aG]);rw[mN.out]at h1;generalize (jV L k).length=lk at *;generalize (L k).length=ll at *;have hz:¬((lk:Int)+(ll:Int))<0:=by omega
   clear hH;go_wp2;go_round
   case rel=>exact⟨k+1,by go_num,by omega,by rw[mN.out];go_num⟩
   case measure=>simp[intOf];omega
  ·obtain rfl:k=m:=by omega
   rw[<-HN.out];go_wp2_with fail;refine(HG.out _).mono ?_;rintro e w1 ⟨g1,c1,rfl,og,hf1⟩;have kT:=hid og;have iy:=hid hf1;clear og hf1 HG;go_wp2_with fail;go_loopw [6,27] (fun vv kk wr=>∃(t g c:Nat),kk=.int .i64 t/\t<=k/\vv=.slice (some ⟨g,0,none⟩) (jV L t).length c/\Hid (wr.ownsRow w.heap.size 3 1 (.slice (some ⟨g,0,none⟩) (jV L t).length c) (jV L t).length (gu (jV L t)))/\Hid (Fr [] w wr)) (fun _ kk _=>k - (intOf kk).toNat)
   case atStart=>exact⟨0,g1,c1,rfl,aH _,rfl,kT,iy⟩
   case round =>
    obtain⟨t,g,c,rfl,htk,rfl,HO,HF⟩:=hrel;by_cases htl:t<k
    ·have T5:(t:Int)<(k:Int):=by omega
     have d0:=HF.out.cell (HC.out t htl) af;obtain⟨a,ch,hH,hx⟩:=(HS.out t htl).fr HF.out;rw[hH]at d0;have h1:=HCM.out (t+1) (by omega);have mN:=hid (show(jV L (t+1)).length=(jV L t).length+(L t).length by rw[jV,aG]);rw[mN.out]at h1;have hsz:=HF.out.size;have sZ:=hid (show(gu (L t)).length=(L t).length * 1 by simp);have HIS:=hid (show gu (jV L (t+1))=gu (jV L t)++gu (L t) by rw[jV];simp);have agH:=hid (show(L t).length=0->jV L (t+1)=jV L t from fun h=>by rw[jV,dX.1 h,cD]);generalize hlk:(jV L t).length=lk at *;generalize hll:(L t).length=ll at *;clear hH hlk hll
     rcases hx with⟨rfl,rfl,rfl⟩ | ⟨ad,rfl,hcells⟩
     ·have iG:=hid (show wr.ownsRow w.heap.size 3 1 (.slice (some ⟨g,0,none⟩) lk c) lk (gu (jV L t))from HO.out)
      go_wp2_with (at_builtin;refine wpList_append_own_none rfl _ _ 22 rfl w.heap.size 3 i0 1 underlying22 hi _ lk _ rfl iG.out rfl ?_);go_wp2;go_roundw
      case rel=>exact⟨t+1,g,c,by go_num,by omega,by rw[mN.out,Nat.add_zero],hid (by rw[mN.out,Nat.add_zero,agH.out rfl];exact HO.out),HF⟩
      case measure=>simp[intOf];omega
     ·have Oo:=hid (show ∀j u,(gu (L t))[j]?=some u->wr.cell? (ad.add j)=some u from fun j u hu=>by
       have hj:=(bg.1 hu).1
       rw[sZ.out,dS]at hj
       have hj2:j<(L t).length:=by have:=(bg.1 hu).1;simpa using this
       rw[iJ hj2]at hu
       rw[hcells j hj];exact hu)
      clear hcells;go_wp2_with (at_builtin;refine eV _ rfl _ _ 22 rfl w.heap.size 3 i0 _ 1 8 underlying22 hi hz0 hz1 hz2 rfl (by decide) _ lk _ rfl HO.out ad ll _ (gu (L t)) rfl sZ.out Oo.out (Db _) (by unfold maxLen;omega) (by omega) hsz ?_);intro v' w3 gM hgrow hnil;have hnn:v'≠.slice none 0 0:=hnil;obtain⟨g',c',hv'⟩:∃g' c',v'=.slice (some ⟨g',0,none⟩) (lk+ll) c':=by
       rcases gM.2 with⟨h5,_⟩ | ⟨g',c',cur,h5,_⟩
       ·exact absurd h5 hnn
       ·exact⟨g',c',h5⟩
      subst hv';have iO:=hid (HF.out.grown hgrow (fun x h=>(HO.out.lt x h).1));have k9:=hid gM;clear gM hgrow hnil hnn;go_wp2;go_roundw
      case rel=>exact⟨t+1,g',c',by go_num,by omega,by rw[mN.out],hid (by rw[mN.out,HIS.out];exact k9.out),iO⟩
      case measure=>simp[intOf];omega
    ·obtain rfl:t=k:=by omega
     rw[<-HN.out]at HO ⊢;go_wp2;go_ret;exact⟨g,c,rfl,HO.out,HF.out⟩
theorem Xa {s:ByteArray}{n:Nat}{Br:List Int}(E:qN s n Br){k:Nat}(hk:k<=Br.length+1):jc s n Br k<(jw s n).length:=by
 have h8:=E.le k hk;have h9:=(jk s n).2.1;have:cn s n<(jw s n).length:=by { unfold cn;omega }
 unfold jc;omega
theorem YY {s:ByteArray}{n:Nat}(h:gJ.Ends s n){Br:List Int}(E:qN s n Br){i j:Nat}(hij:i<j)(hj:j<=Br.length+1):nth (C9 s Br) i<nth (C9 s Br) j:=by
 rw[zG h E (by omega),zG h E hj];exact J2 h (E.mono i j hij hj) (Xa E hj)
theorem NC {s:ByteArray}{n:Nat}(h:gJ.Ends s n){Br:List Int}(E:qN s n Br):jf (C9 s Br) ((s.size:Nat):Int):=by
 refine⟨bn.2 (fun i j hi hj hij=>?_),rfl,?_⟩
 ·have h1:=YY h E hij (by rw[pN]at hj;omega)
  rw[nth,nth,az hi,az hj]at h1;exact h1
 ·rw[pN]
  simp[C9]
theorem Vz {s:ByteArray}{i j:Nat}(h:gJ.pos s i=gJ.pos s j):i=j:=by
 rcases bT i j with h1 | h1 | h1
 ·have:=gJ.kY s i j h1;omega
 ·exact h1
 ·have:=gJ.kY s j i h1;omega
theorem VC {s:ByteArray}{n:Nat}(h:gJ.Ends s n){Br:List Int}(E:qN s n Br)(j:Nat):(C9 s Br).contains ((gJ.pos s j:Nat):Int)=Iw (jw s n) (bnd s n) Br j:=by
 have h0:∀k,k<=Br.length+1->nth (C9 s Br) k=((gJ.pos s (fX (jw s n) (jc s n Br k)):Nat):Int):=fun k hk=>by
  rw[zG h E hk,mJ h (Xa E hk)]
 rw[Bool.eq_iff_iff,dN,Iw,eI];constructor
 ·intro hm
  obtain⟨k,hk,he⟩:=List.mem_iff_getElem.1 hm;have hk2:k<Br.length+2:=by rw[pN]at hk;exact hk
  refine⟨k,bS.2 hk2,aZ ?_⟩;have h1:=h0 k (by omega);rw[nth,az hk,dB,he]at h1;exact(Vz (Int.ofNat.inj h1)).symm
 ·rintro ⟨k,hk,he⟩
  have hk2:=bS.1 hk;have h1:=h0 k (by omega);rw[show fX (jw s n) (jc s n Br k)=j from dz he]at h1;rw[<-h1];exact K8 (by rw[pN];omega)
theorem VD (s:ByteArray)(Br:List Int)(L:Nat->List Int)(h0:L 0=[0])(h1:L 1=Br)(h2:L 2=[((s.size:Nat):Int)]):jV L 3=C9 s Br:=by
 simp[jV,C9,h0,h1,h2]
theorem rZ {l:List Int}{i:Nat}(h:l.length<=i):nth l i=0:=by rw[nth,bq h];rfl
theorem R_ {s:ByteArray}{Lv:List Int}{n:Nat}(h:∀i,0<=nth Lv i/\nth Lv i<=1000)(k:Nat):0<=nth (AU s Lv n) k/\nth (AU s Lv n) k<=1000:=by
 by_cases hk:k<(iU s n).length
 ·rw[JZ hk];exact h _
 ·rw[rZ (by rw[vw];omega)];decide
open Go.Shelf
attribute [local go_sem] Oper.semAt_some
def ND (w:World)(g n:Nat)(R:List Int)(p:Nat->Nat):Prop:=∀i,i<n->w.cell? ⟨g,i * 3,none⟩=some (.int .i32 (nth R i))/\w.cell? ⟨g,i * 3+1,none⟩=some (.int .i64 (p i:Nat))/\w.cell? ⟨g,i * 3+2,none⟩=some (.int .i64 (p (i+1):Nat))
theorem ND.fr {S:List Nat}{w w':World}{g n:Nat}{R:List Int}{p:Nat->Nat}(h:ND w g n R p)(hf:Fr S w w')(hg:g ∉ S):ND w' g n R p:=fun i hi =>
 ⟨hf.cell (h i hi).1 hg,hf.cell (h i hi).2.1 hg,hf.cell (h i hi).2.2 hg⟩
structure VT (gT n cT:Nat)(R:List Int)(p:Nat->Nat)(bx:Nat)(W:World):Prop where
 t:ND W gT n R p
 b:W.cell? ⟨bx,0,none⟩=some (.slice (some ⟨gT,0,none⟩) n cT)
theorem VF (gT n cT:Nat)(R:List Int)(p:Nat->Nat)(bx:Nat)(hn:n<=1000000)(m l:Nat)(V':Nat->World->Prop)(WZ:∀j A,V' j A->VT gT n cT R p bx A)
 (hY:∀j (x:Nat) A,V' j A->(j=x+1/\x<n)->YieldAt Fence.wide (m - 1) prog l #[.int .i64 x,.agg #[.int .i32 (nth R x),.int .i64 (p x:Nat),.int .i64 (p (x+1):Nat)]] A fun e B=>e=.returned (.bool true)/\V' x B) (W:World) (h0:V' n W) :
 CallsIn Fence.wide m prog 248 (#[.func (.yield l) #[] #[]]++#[.pointer (some ⟨bx,0,none⟩)]) W fun e B=>(∃v,e=.returned v)/\V' 0 B:=by
 have b:=(WZ _ _ h0).b;have Iy:=hid WZ;have HY:=hid hY;have H0:=hid h0;clear WZ hY h0;refine callsIn_of_wp func248 rfl trivial ?_ rfl;simp only[ntmps248,dD,bO,List.length_nil,Nat.reduceAdd,Nat.reduceSub,cY,cZ,dF,dw,bU,b8];have hw0:IntKind.i64.wrap ((n:Int) - 1)=(n:Int) - 1:=by rw[eT];omega
 gi_wp2;clear b hw0;gi_loopw [3] (fun a wr=>∃(j:Nat),a=.int .i64 ((j:Int) - 1)/\j<=n/\Hid (V' j wr)) (fun a _=>(intOf a+1).toNat)
 case atStart=>exact⟨n,rfl,ak _,H0⟩
 case round =>
  obtain⟨j,rfl,hj,HV⟩:=hrel
  rcases aS j with hj0 | hj0
  ·subst hj0
   gi_wp2;go_end0;exact⟨⟨_,rfl⟩,HV.out⟩
  ·obtain⟨x,rfl⟩:∃x,j=x+1:=⟨j - 1,by omega⟩
   have hx:((x+1:Nat):Int) - 1=(x:Int):=by omega
   rw[hx];have b:=(Iy.out _ _ HV.out).b;obtain⟨t0,t1,t2⟩:=(Iy.out _ _ HV.out).t x (by omega);have hxi:(x:Int)<(n:Int):=by omega
   have hx0:(0:Int)<=(x:Int):=by omega
   have hw0:IntKind.i64.wrap ((x:Int) - 1)=(x:Int) - 1:=by rw[eT];omega
   obtain⟨fn,tmps,assign,body,WC,hR⟩:=HY.out (x+1) x wr HV.out ⟨rfl,by omega⟩;generalize nth R x=r at *;generalize p x=p0 at *;generalize p (x+1)=p1 at *;clear Iy HY hx;gi_wp2;refine⟨fun hd=>absurd hd (by decide),hR.mono ?_⟩;rintro e W3 ⟨rfl,RB⟩;have YF:=hid RB;clear RB;gi_wp2;go_roundw
   case rel=>exact⟨x,by simp,by omega,YF⟩
   case measure=>simp[intOf]
theorem NE (gT n c:Nat)(w:World):Calls prog 227 #[.slice (some ⟨gT,0,none⟩) n c] w fun e w' =>
 e=.returned (.func (.func 248) #[] #[.pointer (some ⟨w.heap.size,0,none⟩)])/\w'=w.alloc (.cells #[.slice (some ⟨gT,0,none⟩) n c] 29):=by
 go_enter func227,ntmps227;go_wp2;go_ret;exact⟨by simp,rfl⟩
end Go.Proofs.YtnakejhohdbfdaaGreatDoor
namespace Go.Proofs.YtnakejhohdbfdaaGreatDoor
open Go.RowKit Go.Shelf Go.Proofs.Tryz
theorem vZ {σ α:Type}{F:Fence}{n:Nat}{P:Program}{g:Operand}{ps:Array Tmp}{assign body:Code}{Q:Exit->Act->World->Prop}{a:Act}{w:World}
 (hro:F.round=none) (h1:1<=n) {gf:Nat} {lb:Array Value} (hg:a.eval g=.func (.func gf) #[] lb) (hFg:F.fn gf) (eg:∀args w,(callFunc gf args).run P w=.ok (.enter gf args) w)
 {encs:α->Array Value} (hps:∀x,(encs x).size=ps.size)
 (V:σ->World->Prop) (hVs:∀s A,V s A->w.heap.size<=A.heap.size) (hV:∀s A B,V s A->Below w.heap.size A B->V s B) (ok:σ->α->Prop) (nx:σ->α->σ) (s0 s1:σ)
 (hseq:∀(l:Nat) (V':σ->World->Prop) (W:World),(∀s A,V' s A->V s A)->(∀s A B,V' s A->Fr [] A B->V' s B) ->
   (∀s x A,V' s A->ok s x->YieldAt F (n - 1 - 1) P l (encs x) A fun e B=>e=.returned (.bool true)/\V' (nx s x) B)->V' s0 W ->
   CallsIn F (n - 1) P gf (#[.func (.yield l) #[] #[]]++lb) W fun e B=>(∃v,e=.returned v)/\V' s1 B)
 (o:α->Obj) (a₁:α->Nat->Act) (h0:V s0 w)
 (hassign:∀(l:Nat) (x:α) (W:World) (K:Act->World->Prop),K (a₁ x W.heap.size) (W.alloc (o x)) ->
   assign.wpIn (F.inRound l) (n - 1 - 1) P (Exit.then K (fun _ _ _=>False)) { tmps:=(ps.zip (encs x)).foldl (fun t (p,v)=>t.setIfInBounds p v) a.tmps,defers:=[] } W)
 (hbody:∀(l:Nat) (s:σ) (x:α) (A:World) (b:Nat),V s A->ok s x->A.heap[b]?=some (o x)->w.heap.size+2<=b->body.wpIn (F.inRound l) (n - 1 - 1) P (Ry w.heap.size V (nx s x) A) (a₁ x b) A)
 (hdone:∀(D:Nat) (A:World),V s1 A->w.heap.size<=D->A.heap[D]?=some (.deferred (some []))->Q .normal { a with defers:={ target:=.collected D,args:=#[] } :: a.defers } A) :
 (Code.rangeFunc g ps assign body).wpIn F n P Q a w:=by
 refine wpIn_rangeFunc ?_;intro fn hfn;rw[hro];obtain⟨rec,hrec⟩:∃rec:LoopState->Option Code->Loop,rec=fun st pe=>{ state:=st,pending:=pe,fn,tmps:=a.tmps,params:=ps,assign,body,defers:=w.heap.size }:=⟨_,rfl⟩
 obtain⟨W1,hW1⟩:∃W1,(w.alloc (.deferred (some []))).alloc (.loop (rec .ready none))=W1:=⟨_,rfl⟩;have hL1:W1.heap[w.heap.size+1]?=some (.loop (rec .ready none)):=by
  rw[<-hW1];have:=World.alloc_heap_new (w.alloc (.deferred (some []))) (.loop (rec .ready none));rwa [fI]at this
 have hK1:W1.heap[w.heap.size]?=some (.deferred (some [])):=by
  rw[<-hW1];exact(Below.heap_alloc _ _ _ (by simp)).trans (World.alloc_heap_new w _)
 have hI1:V s0 W1:=by
  rw[<-hW1];exact hV _ _ _ h0 (((fq _ w).alloc (ak _) _).alloc (by simp) _)
 let V':σ->World->Prop:=fun s A=>V s A/\A.heap[w.heap.size+1]?=some (.loop (rec .ready none))/\A.heap[w.heap.size]?=some (.deferred (some []))
 refine⟨w.heap.size+1,[{ target:=.collected w.heap.size,args:=#[] }],W1,{ target:=.fn (.func gf) lb,args:=#[.func (.yield (w.heap.size+1)) #[] #[]] },W1,gf,
  #[.func (.yield (w.heap.size+1)) #[] #[]]++lb,W1,?_,?_,?_,?_,fun _=>h1,?_⟩
 ·rw[<-hW1,hrec];exact run_enterLoop_outer _ _ _ _ _
 ·simp only[resolve,hg]
  simp[go_sem]
 ·intro f' hf';simp[Target.leads]at hf';subst hf';exact hFg
 ·simp[invoke,go_sem,eg]
 ·refine(hseq (w.heap.size+1) V' W1 (fun s A h=>h.1) (fun s A B h hf=>?_) ?_ ⟨hI1,hL1,hK1⟩).mono ?_
  ·obtain⟨k1,k2,k3⟩:=h
   exact⟨hV _ _ _ k1 (zF hf (hVs _ _ k1)),(hf.block _ (aD.1 k2).1 af).trans k2,(hf.block _ (aD.1 k3).1 af).trans k3⟩
  ·rintro s x W ⟨hi,hl,hk⟩ hok
   have hlt:w.heap.size+1<W.heap.size:=(aD.1 hl).1;have hy:=run_yield (P:=P) (args:=encs x) hl (by rw[hrec];exact hps x);rw[hrec]at hy;have hla:(W.alloc (o x)).heap[w.heap.size+1]?=some (.loop (rec .ready none)):=(Below.heap_alloc _ _ _ hlt).trans hl;refine⟨fn,_,assign,body,hy,roundIn_of_wpIn hfn (hassign _ x W _ ⟨_,run_beginRound hla (by rw[hrec]),?_⟩)⟩;have hlt2:w.heap.size+1<(W.alloc (o x)).heap.size:=by rw[fI];omega
   have hl2:((W.alloc (o x)).putObj (w.heap.size+1) (.loop { rec .ready none with state:=.busy })).heap[w.heap.size+1]?=some (.loop { rec .ready none with state:=.busy }):=World.putObj_heap_same hlt2;have hk2:((W.alloc (o x)).putObj (w.heap.size+1) (.loop { rec .ready none with state:=.busy })).heap[w.heap.size]?=some (.deferred (some [])):=(World.putObj_heap_other (by omega)).trans ((Below.heap_alloc _ _ _ (by omega)).trans hk);have hb2:((W.alloc (o x)).putObj (w.heap.size+1) (.loop { rec .ready none with state:=.busy })).heap[W.heap.size]?=some (o x):=(World.putObj_heap_other (by omega)).trans (World.alloc_heap_new W _);refine wpIn_mono (hbody _ s x _ W.heap.size (hV _ _ _ (hV _ _ _ hi ((fq _ W).alloc (by omega) _)) (iP (by omega) _)) hok hb2 (by omega)) ?_;rintro e a3 W3 hp;cases e with
   | normal =>
     obtain⟨hkeep,hi3⟩:=hp;have hl3:=(hkeep (w.heap.size+1) (by omega) (by rw[World.putObj_size];exact hlt2)).trans hl2;have hk3:=(hkeep w.heap.size (by omega) (by rw[World.putObj_size];omega)).trans hk2;have hr:=run_endRound (P:=P) none hl3;rw[hrec]at hr hl3;refine⟨_,_,hr,rfl,hV _ _ _ hi3 (iP (by omega) _),?_,(World.putObj_heap_other (by omega)).trans hk3⟩;rw[hrec];exact World.putObj_heap_same (aD.1 hl3).1
   | ret=>exact hp.elim
   | exit id=>exact hp.elim
   | goto t=>exact hp.elim
   | panic ch=>exact hp.elim
   | outgrown=>exact hp.elim
  ·rintro e W2 ⟨⟨v,rfl⟩,hi,hl,hk⟩
   exact⟨none,_,by have:=run_endLoop (P:=P) hl (by rw[hrec];simp);rw[hrec]at this;exact this,hdone _ _ (hV _ _ _ hi (iP (by omega) _)) (ak _) ((World.putObj_heap_other (by omega)).trans hk)⟩
open jN Lay uS
def vJ (K LV:List Int)(bs:Int)(ed:Nat->Bool)(j:Nat):List Int:=(List.range LV.length).map (fun i=>if j<=i then Tf K LV bs ed i else nth LV i)
theorem lH (K LV:List Int)(bs:Int)(ed:Nat->Bool)(j:Nat):(vJ K LV bs ed j).length=LV.length:=by simp[vJ]
theorem vA {K LV:List Int}{bs:Int}{ed:Nat->Bool}{j i:Nat}(h:i<LV.length):nth (vJ K LV bs ed j) i=if j<=i then Tf K LV bs ed i else nth LV i:=by simp[nth,vJ,h]
theorem FO {a b:List Int}(hl:a.length=b.length)(h:∀i,i<a.length->nth a i=nth b i):a=b:=by
 refine List.ext_getElem? (fun i=>?_);by_cases hi:i<a.length
 ·have h1:=h i hi
  rw[nth,nth,az hi,az (by omega)]at h1;rw[az hi,az (by omega)];exact congrArg some h1
 ·rw[bq (by omega),bq (by omega)]
theorem J5 (K LV:List Int)(bs:Int)(ed:Nat->Bool):vJ K LV bs ed LV.length=LV:=by
 refine FO (lH _ _ _ _ _) (fun i hi=>?_);rw[lH]at hi;rw[vA hi,au (by omega)]
theorem yG {K LV:List Int}{bs:Int}{ed:Nat->Bool}{i:Nat}(h:i<LV.length):nth (vJ K LV bs ed 0) i=Tf K LV bs ed i:=by rw[vA h,ay (aH _)]
theorem Sa {K LV:List Int}{bs:Int}{ed:Nat->Bool}{j:Nat}(he:mg K ed j=true):(vJ K LV bs ed (j+1)).set j bs=vJ K LV bs ed j:=by
 refine FO (by rw[aY,lH,lH]) (fun i hi=>?_);rw[aY,lH]at hi;rw[vA hi];by_cases hij:i=j
 ·subst hij
  rw[ay (ak _),Tf,ay he,nth,aQ (by rw[lH];exact hi)];rfl
 ·rw[nth,aU (fun e=>hij e.symm),<-nth,vA hi]
  by_cases h1:j<=i
  ·rw[ay h1,ay (by omega)]
  ·rw[au h1,au (by omega)]
theorem VG {K LV:List Int}{bs:Int}{ed:Nat->Bool}{j:Nat}(he:mg K ed j=false):vJ K LV bs ed (j+1)=vJ K LV bs ed j:=by
 refine FO (by rw[lH,lH]) (fun i hi=>?_);rw[lH]at hi;rw[vA hi,vA hi];by_cases hij:i=j
 ·subst hij
  rw[ay (ak _),au (by omega),Tf,au (by rw[he];exact aE)]
 ·by_cases h1:j<=i
  ·rw[ay h1,ay (by omega)]
  ·rw[au h1,au (by omega)]
structure VE (w:World)(N gT n cT:Nat)(R:List Int)(p:Nat->Nat)(gL cL:Nat)(bs:Int)(ge m ce:Nat)(Ed K LV:List Int)(ed:Nat->Bool)(j:Nat)(A:World):Prop where
 v:VT gT n cT R p (w.heap.size+4) A
 b0:A.cell? ⟨w.heap.size,0,none⟩=some (.slice (some ⟨gL,0,none⟩) n cL)
 b1:A.cell? ⟨w.heap.size+1,0,none⟩=some (.int .i64 bs)
 b2:A.cell? ⟨w.heap.size+2,0,none⟩=some (.slice (some ⟨ge,0,none⟩) m ce)
 b3:A.cell? ⟨w.heap.size+3,0,none⟩=some (.bool (mg K ed j))
 f3:A.frozen? ⟨w.heap.size+3,0,none⟩=false
 e:rowAt A ge m Ed
 l:rowAt A gL n (vJ K LV bs ed j)
 lf:soft A gL n
 f:Fr [gL] w A
 n:N<=A.heap.size
theorem VE.below {w:World}{N gT n cT:Nat}{R:List Int}{p:Nat->Nat}{gL cL:Nat}{bs:Int}{ge m ce:Nat}{Ed K LV:List Int}{ed:Nat->Bool}{j:Nat}{A B:World}(h:VE w N gT n cT R p gL cL bs ge m ce Ed K LV ed j A)(hN:N=w.heap.size+5)(hT:gT<w.heap.size)(hL:gL<w.heap.size)(hE:ge<w.heap.size)(hb:Below N A B):VE w N gT n cT R p gL cL bs ge m ce Ed K LV ed j B:=by
 have hf:=nk hb;have z:∀ {k},k<N->k ∉ (List.range A.heap.size).filter (fun k=>decide (N<=k)):=fun hk=>lE (by omega)
 refine⟨⟨h.v.t.fr hf (z (by omega)),hf.cell h.v.b (z (by omega))⟩,hf.cell h.b0 (z (by omega)),hf.cell h.b1 (z (by omega)),hf.cell h.b2 (z (by omega)),hf.cell h.b3 (z (by omega)),hf.j8 h.b3 (z (by omega)) h.f3,h.e.fr hf (z (by omega)),h.l.fr hf (z (by omega)),fun i hi=>hf.j8 (h.l i hi) (z (by omega)) (h.lf i hi),?_,by have:=h.n;have:=hb.size;omega⟩;exact⟨hb.os.trans h.f.os,hb.tape.trans h.f.tape,hb.output.trans h.f.output,a_ h.f.size hb.size,fun k hk hm=>(hb.block k (by omega)).trans (h.f.block k hk hm)⟩
theorem VE.no {w:World}{N gT n cT:Nat}{R:List Int}{p:Nat->Nat}{gL cL:Nat}{bs:Int}{ge m ce:Nat}{Ed K LV:List Int}{ed:Nat->Bool}{x:Nat}{A B:World}(h:VE w N gT n cT R p gL cL bs ge m ce Ed K LV ed (x+1) A)(hN:N=w.heap.size+5)(hT:gT<w.heap.size)(hL:gL<w.heap.size)(hE:ge<w.heap.size)(he:mg K ed x=false)(hG:Fr [] A B) :
 (∀k,N<=k->k<A.heap.size->(B.setCell ⟨w.heap.size+3,0,none⟩ (.bool false)).heap[k]?=A.heap[k]?)/\VE w N gT n cT R p gL cL bs ge m ce Ed K LV ed x (B.setCell ⟨w.heap.size+3,0,none⟩ (.bool false)):=by
 have hf:Fr [w.heap.size+3] A (B.setCell ⟨w.heap.size+3,0,none⟩ (.bool false)):=(hG.mono (fun _ h _=>absurd h af):Fr [w.heap.size+3] A B).set (aj.2 rfl) _;have z:∀ {k},k≠w.heap.size+3->k ∉ [w.heap.size+3]:=fun hk hm=>hk (aj.1 hm)
 have c3:=hG.cell h.b3 af;have f3:=hG.j8 h.b3 af h.f3;refine⟨fun k hk hk2=>hf.block k hk2 (z (by omega)),⟨h.v.t.fr hf (z (by omega)),hf.cell h.v.b (z (by omega))⟩,hf.cell h.b0 (z (by omega)),hf.cell h.b1 (z (by omega)),hf.cell h.b2 (z (by omega)),?_,?_,h.e.fr hf (z (by omega)),?_,fun i hi=>hf.j8 (h.l i hi) (z (by omega)) (h.lf i hi),?_,by have:=h.n;have:=hf.size;omega⟩
 ·rw[he];exact World.cell?_setCell_same' _ _ _ (by rw[c3];rfl)
 ·simpa using f3
 ·rw[<-VG he];exact h.l.fr hf (z (by omega))
 ·exact((h.f.mono (fun a ha _=>dV [w.heap.size+3] ha):Fr ([gL]++[w.heap.size+3]) w A).trans (hf.mono (fun a ha _=>eD [gL] ha))).mono (fun a ha hlt=>by rcases bD.1 ha with h1 | h1;exact h1;have:=aj.1 h1;omega)
theorem VE.yes {w:World}{N gT n cT:Nat}{R:List Int}{p:Nat->Nat}{gL cL:Nat}{bs:Int}{ge m ce:Nat}{Ed K LV:List Int}{ed:Nat->Bool}{x:Nat}{A B:World}(h:VE w N gT n cT R p gL cL bs ge m ce Ed K LV ed (x+1) A)(hx:x<n)(Tu:LV.length=n)(hN:N=w.heap.size+5)(hT:gT<w.heap.size)(hL:gL<w.heap.size)(hE:ge<w.heap.size)(hgE:ge≠gL)(Xb:gT≠gL)(he:mg K ed x=true)(hG:Fr [] A B) :
 (∀k,N<=k->k<A.heap.size->((B.setCell ⟨w.heap.size+3,0,none⟩ (.bool true)).setCell ⟨gL,x,none⟩ (.int .i64 bs)).heap[k]?=A.heap[k]?)/\VE w N gT n cT R p gL cL bs ge m ce Ed K LV ed x ((B.setCell ⟨w.heap.size+3,0,none⟩ (.bool true)).setCell ⟨gL,x,none⟩ (.int .i64 bs)):=by
 have hf1:Fr [w.heap.size+3] A (B.setCell ⟨w.heap.size+3,0,none⟩ (.bool true)):=(hG.mono (fun _ h _=>absurd h af):Fr [w.heap.size+3] A B).set (aj.2 rfl) _;have hf:Fr [w.heap.size+3,gL] A ((B.setCell ⟨w.heap.size+3,0,none⟩ (.bool true)).setCell ⟨gL,x,none⟩ (.int .i64 bs)):=(hf1.mono (fun a ha _=>by simp at ha;simp[ha])).set (by simp) _;have z1:∀ {k},k≠w.heap.size+3->k ∉ [w.heap.size+3]:=fun hk hm=>hk (aj.1 hm)
 have z:∀ {k},k≠w.heap.size+3->k≠gL->k ∉ [w.heap.size+3,gL]:=fun hk hk2 hm=>by simp at hm;omega
 have c3:=hG.cell h.b3 af;have f3:=hG.j8 h.b3 af h.f3;have g2:Fr [gL] (B.setCell ⟨w.heap.size+3,0,none⟩ (.bool true)) ((B.setCell ⟨w.heap.size+3,0,none⟩ (.bool true)).setCell ⟨gL,x,none⟩ (.int .i64 bs)):=(Fr.refl [gL] _).set (aj.2 rfl) _;have n3:w.heap.size+3 ∉ [gL]:=fun hm=>by have:=aj.1 hm;omega
 have c3':(B.setCell ⟨w.heap.size+3,0,none⟩ (.bool true)).cell? ⟨w.heap.size+3,0,none⟩=some (.bool true):=World.cell?_setCell_same' _ _ _ (by rw[c3];rfl);have hl1:rowAt (B.setCell ⟨w.heap.size+3,0,none⟩ (.bool true)) gL n (vJ K LV bs ed (x+1)):=h.l.fr hf1 (z1 (by omega));refine⟨fun k hk hk2=>hf.block k hk2 (z (by omega) (by omega)),⟨h.v.t.fr hf (z (by omega) Xb),hf.cell h.v.b (z (by omega) (by omega))⟩,hf.cell h.b0 (z (by omega) (by omega)),hf.cell h.b1 (z (by omega) (by omega)),hf.cell h.b2 (z (by omega) (by omega)),?_,?_,h.e.fr hf (z (by omega) hgE),?_,?_,?_,by have:=h.n;have:=hf.size;omega⟩
 ·rw[he];exact g2.cell c3' n3
 ·exact g2.j8 c3' n3 (by simpa using f3)
 ·rw[<-Sa he];exact hl1.set hx (by rw[lH];exact Tu) bs
 ·intro i hi
  have hfz:=hf1.j8 (h.l i hi) (z1 (by omega)) (h.lf i hi);simpa using hfz
 ·exact((h.f.mono (fun a ha _=>dV [w.heap.size+3,gL] ha):Fr ([gL]++[w.heap.size+3,gL]) w A).trans (hf.mono (fun a ha _=>eD [gL] ha))).mono (fun a ha hlt=>by simp at ha ⊢;omega)
end Go.Proofs.YtnakejhohdbfdaaGreatDoor

import Derived.Test.YtnakejhohdbfdacGreatDoorMat
set_option maxHeartbeats 16000000
set_option maxRecDepth 10000
set_option linter.unusedSimpArgs false
namespace Go.Proofs.YtnakejhohdbfdacGreatDoor
open Go.RowKit j9 Go.Maps Go.Proofs.Tryz
theorem oF {T:List Nat}{w wr w':World}(h:Fr T w wr)(hb:Below w.heap.size wr w'):Fr T w w' :=
 ⟨hb.os.trans h.os,hb.tape.trans h.tape,hb.output.trans h.output,aK h.size hb.size,fun k hk hs=>(hb.block k hk).trans (h.block k hk hs)⟩
theorem US.below {w w':World}{q:UH}{C L:List Int}{B:Nat}(h:US w q C L)(hb:Below B w w')(hU:q.U<B):US w' q C L :=
 ⟨fun i hi=>(hb.cell (p:=⟨q.U,i * 4,none⟩) hU).trans (h.r i hi),fun i hi=>(hb.cell (p:=⟨q.U,i * 4+1,none⟩) hU).trans (h.k i hi),fun i hi=>(hb.cell (p:=⟨q.U,i * 4+2,none⟩) hU).trans (h.c i hi),fun i hi=>(hb.cell (p:=⟨q.U,i * 4+3,none⟩) hU).trans (h.l i hi),fun j hj=>(hb.frozen (p:=⟨q.U,j,none⟩) hU).trans (h.soft j hj),h.lC,h.lL⟩
def wQ (e:xw):xw:=if 0<e.mi then { e with mi:=e.mi - 1 } else if 0<e.op then { e with me:=0,st:=mW e.st.length e.st,op:=e.op - 1 } else e
theorem P9 {K:List Int}{base:Int}{i:Nat}{e:xw}(hc:nth K i=22):jE K base i e=hold (wQ e) i:=by
 have h1:begins (nth K i)=false:=by rw[hc];rfl
 have h2:mh (nth K i)=false:=by rw[hc];rfl
 rw[jE,h1,ay aG,h2,ay aG,aE hc];rfl
theorem X2 {w:World}{B E g cap:Nat}{e:xw}(h:∃st' Ee me' op',ES w B E g cap st' Ee me' op'/\((0<e.mi/\st'=e.st/\Ee=e.mi - 1/\me'=e.me/\op'=e.op)\/(e.mi=0/\0<e.op/\st'=mW e.st.length e.st/\Ee=0/\me'=0/\op'=e.op - 1)\/(e.mi=0/\e.op=0/\st'=e.st/\Ee=0/\me'=e.me/\op'=0))):ES w B E g cap (wQ e).st (wQ e).mi (wQ e).me (wQ e).op:=by
 obtain⟨st',Ee,me',op',hes,h | h | h⟩:=h
 ·obtain⟨k1,rfl,rfl,rfl,rfl⟩:=h
  rw[wQ,aE k1];exact hes
 ·obtain⟨k1,k2,rfl,rfl,rfl,rfl⟩:=h
  rw[wQ,ay (by omega),aE k2];dsimp only;rw[k1];exact hes
 ·obtain⟨k1,k2,rfl,rfl,rfl,rfl⟩:=h
  rw[wQ,ay (by omega),ay (by omega),k1,k2];exact hes
theorem X3 (e:xw):(wQ e).C=e.C/\(wQ e).L=e.L:=by unfold wQ;split;exact⟨rfl,rfl⟩;split <;> exact⟨rfl,rfl⟩
theorem GQ:∀f (st:List nE),(mW f st).length<=st.length
 | 0,st=>au _
 | f+1,st=>by
   rw[mW];split
   ·rw[List.length_dropLast];omega
   ·have:=GQ f st.dropLast;rw[List.length_dropLast]at this;omega
theorem X4 {e:xw}(h:sI e.st.reverse)(hi:0<e.op->0<oB e.st.reverse):sI (wQ e).st.reverse/\(wQ e).st.length<=e.st.length:=by
 unfold wQ;split
 ·exact⟨h,au _⟩
 ·split
  ·next h2=>exact⟨Ti h (hi h2),GQ _ _⟩
  ·exact⟨h,au _⟩
theorem Mr (q:UH)(P cU mb n:Nat)(lv:Int)(D:DataW Unit)(w:World)(hu:US w q q.K (List.replicate q.K.length 0))(hq:QM w q P cU mb n lv D)(hmU:mb≠q.U)(hK:q.K.length=q.n)(hn:q.n<=1000000)(hn0:0<q.n)(hb:lv=0\/lv=1) :
 Calls prog 137 #[.pointer (some ⟨P,0,none⟩)] w fun e w'=>e=.returned (.tuple #[])/\US w' q (jy q.K lv q.n).C (jy q.K lv q.n).L/\Fr [q.U] w w':=by
 have c2:=hq.s.c2;have c0:=hq.s.c0;have HU:=hid hu;have HQ:=hid hq;have HK:=hid hK;have Fy:=hid hb;have Co:q.U<w.heap.size:=fC _ _ (hu.r 0 hn0);have za:P<w.heap.size:=fC _ _ c2;have HPU:=hid (show P ∉ [q.U]from fun h=>hq.s.ne (ak.1 h));have ZE:=hid (show mb ∉ [q.U]from fun h=>hmU (ak.1 h));obtain⟨Z,hZ⟩:∃Z,Z=jy q.K lv q.n:=⟨_,rfl⟩;rw[<-hZ];have HZ:=hid hZ;clear hu hq hK hb hZ hmU;go_enter func137,ntmps137;go_wp2;go_loopw [17] (fun a wr=>∃(i g cap:Nat),a=.int .i64 i/\i<=q.n/\Hid (US wr q (jy q.K lv i).C (jy q.K lv i).L)/\Hid (ES wr w.heap.size (w.heap.size+1) g cap (jy q.K lv i).st (jy q.K lv i).mi (jy q.K lv i).me (jy q.K lv i).op)/\Hid (Fr [q.U] w wr)) (fun a _=>q.n - (intOf a).toNat)
 case atStart =>
  refine⟨0,w.heap.size,1,rfl,aN _,hid (HU.out.fr (T:=[]) (((Fr.refl _ _).alloc _).alloc _) aj),hid ⟨?_,?_,by omega⟩,hid (((Fr.refl _ _).alloc _).alloc _)⟩
  ·have:=gQ (w.alloc (.cells #[.int .i64 lv,.int .i64 (-1),.bool false] 284)) (.cells #[.slice (some ⟨w.heap.size,0,none⟩) 1 1,.int .i64 0,.int .i64 0,.int .i64 0] 287)
   rw[show(w.alloc (.cells #[.int .i64 lv,.int .i64 (-1),.bool false] 284)).heap.size=w.heap.size+1 by simp]at this;exact this
  ·exact(iq (base:=w.heap.size) (e:=284) (size:=3) w #[.int .i64 lv,.int .i64 (-1),.bool false] 1 (au _) (by decide) rfl).alloc _
 case round =>
  obtain⟨i,g,cap,rfl,hin,HP,Ms,HF⟩:=hrel;by_cases hlt:i<q.n
  ·have CE:=hid (pM q.K lv Fy.out i (by rw[HK.out];exact hin))
   have qP:=hid (show jy q.K lv (i+1)=jE q.K lv i (jy q.K lv i)from rfl);have hz:=CE.out.sz;have HT:=hid (yV CE.out.st);have hpos:=OX CE.out.st;have Mt:(jy q.K lv i).op<=i:=by have h1:=CE.out.cnt;have h2:=B9 q.K i;omega
   have HQR:=hid (HQ.out.fr HF.out HPU.out ZE.out);have d0:=HQR.out.s.c0;have d2:=HQR.out.s.c2;have p1:=HP.out.k i hlt;have y_:(i:Int)<(q.n:Int):=by omega
   have HIS:=hid (show 0<(jy q.K lv i).op->0<oB (jy q.K lv i).st.reverse from fun h=>by have h1:=CE.out.op;omega);obtain⟨c,hc⟩:∃c,c=nth q.K i:=⟨_,rfl⟩;obtain⟨nx,hnx⟩:∃x,x=kT (top (jy q.K lv i).st).lv (j_ q.K i):=⟨_,rfl⟩;obtain⟨F,hF⟩:∃F,F=fits (jy q.K lv i) nx:=⟨_,rfl⟩;have xW:=hid hnx;have DB:=hid hF;rw[<-hc]at p1;have HC:=hid hc;have aeG:=hid CE.out.st;generalize jy q.K lv i=e at *;have hsz:=HF.out.size;have aiP:=Ms.out.tY;have hs1:=hz.1;have hs2:=hz.2.1;have hs3:=hz.2.2;clear hnx hF hc CE hz;have hcl:c=16\/c=14\/c=17\/c=15\/c=19\/c=20\/c=21\/c=22\/c=18\/c=10\/c=9\/(begins c=false/\mh c=false/\c≠22/\c≠18/\c≠10/\c≠9):=by
    simp only[begins,mh,Bool.or_eq_false_iff,aQ];omega
   rcases hcl with h | h | h | h | h | h | h | h | h | h | h | h
   ·skip
    as_aux_lemma =>
     subst h;have HB:=hid (uN (base:=lv) (e:=e) HC.out.symm (by decide) xW.out);rw[<-qP.out,<-DB.out]at HB;have X5:=hid (show j_ q.K i=(((16:Int) == 16) || ((16:Int) == 17)) by rw[j_,<-HC.out];rfl);have Jd:=hid (xV wr w.heap.size (w.heap.size+1) g cap e.st e.mi e.me e.op 16 nx F Ms.out hpos (by omega) (by omega) HT.out (by decide) (by rw[xW.out,X5.out]) DB.out);go_wp2_with (first | (go_at_call 166;refine Jd.out.mono ?_;rintro e' w1 ⟨rfl,hx,hb1⟩));obtain⟨g',cap',st',me',hes,hcase⟩:=hx;have pO:=hid (HP.out.below hb1 Co);have jc:=hid (oF HF.out hb1);have kX:=hid hes;have Je:=hid hcase;clear hes hb1 hcase;go_roundw
     case rel =>
      rcases Je.out with⟨k1,k2,k3⟩ | ⟨k1,k2,k3,k4⟩ | ⟨k1,k2,k3,k4⟩
      ·have HN:=HB.out.1 k1
       refine⟨i+1,g',cap',by go_num,by omega,hid (by rw[HN];exact pO.out),hid (by rw[HN];dsimp only;rw[k2,k3]at kX;exact kX.out),jc⟩
      ·have HN:=HB.out.2.1 k1 k2
       refine⟨i+1,g',cap',by go_num,by omega,hid (by rw[HN];exact pO.out),hid (by rw[HN];dsimp only;rw[k3,k4]at kX;exact kX.out),jc⟩
      ·have HN:=HB.out.2.2 k1 k2
       refine⟨i+1,g',cap',by go_num,by omega,hid (by rw[HN];exact pO.out),hid (by rw[HN];rw[k3,k4]at kX;exact kX.out),jc⟩
     case measure=>simp[intOf];omega
   ·skip
    as_aux_lemma =>
     subst h;have HB:=hid (uN (base:=lv) (e:=e) HC.out.symm (by decide) xW.out);rw[<-qP.out,<-DB.out]at HB;have X5:=hid (show j_ q.K i=(((14:Int) == 16) || ((14:Int) == 17)) by rw[j_,<-HC.out];rfl);have Jd:=hid (xV wr w.heap.size (w.heap.size+1) g cap e.st e.mi e.me e.op 14 nx F Ms.out hpos (by omega) (by omega) HT.out (by decide) (by rw[xW.out,X5.out]) DB.out);go_wp2_with (first | (go_at_call 166;refine Jd.out.mono ?_;rintro e' w1 ⟨rfl,hx,hb1⟩));obtain⟨g',cap',st',me',hes,hcase⟩:=hx;have pO:=hid (HP.out.below hb1 Co);have jc:=hid (oF HF.out hb1);have kX:=hid hes;have Je:=hid hcase;clear hes hb1 hcase;go_roundw
     case rel =>
      rcases Je.out with⟨k1,k2,k3⟩ | ⟨k1,k2,k3,k4⟩ | ⟨k1,k2,k3,k4⟩
      ·have HN:=HB.out.1 k1
       refine⟨i+1,g',cap',by go_num,by omega,hid (by rw[HN];exact pO.out),hid (by rw[HN];dsimp only;rw[k2,k3]at kX;exact kX.out),jc⟩
      ·have HN:=HB.out.2.1 k1 k2
       refine⟨i+1,g',cap',by go_num,by omega,hid (by rw[HN];exact pO.out),hid (by rw[HN];dsimp only;rw[k3,k4]at kX;exact kX.out),jc⟩
      ·have HN:=HB.out.2.2 k1 k2
       refine⟨i+1,g',cap',by go_num,by omega,hid (by rw[HN];exact pO.out),hid (by rw[HN];rw[k3,k4]at kX;exact kX.out),jc⟩
     case measure=>simp[intOf];omega
   ·skip
    as_aux_lemma =>
     subst h;have HB:=hid (uN (base:=lv) (e:=e) HC.out.symm (by decide) xW.out);rw[<-qP.out,<-DB.out]at HB;have X5:=hid (show j_ q.K i=(((17:Int) == 16) || ((17:Int) == 17)) by rw[j_,<-HC.out];rfl);have Jd:=hid (xV wr w.heap.size (w.heap.size+1) g cap e.st e.mi e.me e.op 17 nx F Ms.out hpos (by omega) (by omega) HT.out (by decide) (by rw[xW.out,X5.out]) DB.out);go_wp2_with (first | (go_at_call 166;refine Jd.out.mono ?_;rintro e' w1 ⟨rfl,hx,hb1⟩));obtain⟨g',cap',st',me',hes,hcase⟩:=hx;have pO:=hid (HP.out.below hb1 Co);have jc:=hid (oF HF.out hb1);have kX:=hid hes;have Je:=hid hcase;clear hes hb1 hcase;go_roundw
     case rel =>
      rcases Je.out with⟨k1,k2,k3⟩ | ⟨k1,k2,k3,k4⟩ | ⟨k1,k2,k3,k4⟩
      ·have HN:=HB.out.1 k1
       refine⟨i+1,g',cap',by go_num,by omega,hid (by rw[HN];exact pO.out),hid (by rw[HN];dsimp only;rw[k2,k3]at kX;exact kX.out),jc⟩
      ·have HN:=HB.out.2.1 k1 k2
       refine⟨i+1,g',cap',by go_num,by omega,hid (by rw[HN];exact pO.out),hid (by rw[HN];dsimp only;rw[k3,k4]at kX;exact kX.out),jc⟩
      ·have HN:=HB.out.2.2 k1 k2
       refine⟨i+1,g',cap',by go_num,by omega,hid (by rw[HN];exact pO.out),hid (by rw[HN];rw[k3,k4]at kX;exact kX.out),jc⟩
     case measure=>simp[intOf];omega
   ·skip
    as_aux_lemma =>
     subst h;have HB:=hid (uN (base:=lv) (e:=e) HC.out.symm (by decide) xW.out);rw[<-qP.out,<-DB.out]at HB;have X5:=hid (show j_ q.K i=(((15:Int) == 16) || ((15:Int) == 17)) by rw[j_,<-HC.out];rfl);have Jd:=hid (xV wr w.heap.size (w.heap.size+1) g cap e.st e.mi e.me e.op 15 nx F Ms.out hpos (by omega) (by omega) HT.out (by decide) (by rw[xW.out,X5.out]) DB.out);go_wp2_with (first | (go_at_call 166;refine Jd.out.mono ?_;rintro e' w1 ⟨rfl,hx,hb1⟩));obtain⟨g',cap',st',me',hes,hcase⟩:=hx;have pO:=hid (HP.out.below hb1 Co);have jc:=hid (oF HF.out hb1);have kX:=hid hes;have Je:=hid hcase;clear hes hb1 hcase;go_roundw
     case rel =>
      rcases Je.out with⟨k1,k2,k3⟩ | ⟨k1,k2,k3,k4⟩ | ⟨k1,k2,k3,k4⟩
      ·have HN:=HB.out.1 k1
       refine⟨i+1,g',cap',by go_num,by omega,hid (by rw[HN];exact pO.out),hid (by rw[HN];dsimp only;rw[k2,k3]at kX;exact kX.out),jc⟩
      ·have HN:=HB.out.2.1 k1 k2
       refine⟨i+1,g',cap',by go_num,by omega,hid (by rw[HN];exact pO.out),hid (by rw[HN];dsimp only;rw[k3,k4]at kX;exact kX.out),jc⟩
      ·have HN:=HB.out.2.2 k1 k2
       refine⟨i+1,g',cap',by go_num,by omega,hid (by rw[HN];exact pO.out),hid (by rw[HN];rw[k3,k4]at kX;exact kX.out),jc⟩
     case measure=>simp[intOf];omega
   ·skip
    as_aux_lemma =>
     subst h;have HB:=hid (EL (base:=lv) (e:=e) HC.out.symm (by decide) xW.out);rw[<-qP.out,<-DB.out]at HB;have Jf:=hid (tZ q e.C e.L wr w.heap.size (w.heap.size+1) g cap e i rfl rfl Ms.out hpos (by omega) HT.out HP.out hlt Co);have Sy:=hid (show mh (nth q.K i)=true by rw[<-HC.out];decide);go_wp2_with (first | (go_at_call 168;refine Jf.out.mono ?_;rintro e' w1 ⟨rfl,hu1,he1,hf1⟩;have pO:=hid hu1;have kX:=hid he1;have jc:=hid (HF.out.trans hf1);have P_:=hid (HQR.out.fr hf1 HPU.out ZE.out);clear hu1 he1 hf1) | (go_at_call 170;refine(Cv q _ _ P cU mb n lv D i _ pO.out P_.out HK.out hn hlt Sy.out).mono ?_;rintro e' w' ⟨rfl,rfl⟩) | (go_at_call 169;refine(CG _ w.heap.size (w.heap.size+1) g cap e.st e.mi e.me e.op _ nx F kX.out hpos (by omega) (by omega) (by omega) HT.out xW.out DB.out).mono ?_;rintro e' w2 ⟨rfl,hx,hb2⟩));obtain⟨g',cap',st',Ee,op',hes,hcase⟩:=hx;have zk:=hid (pO.out.below hb2 Co);have i_:=hid (oF jc.out hb2);have HE2:=hid hes;have Je:=hid hcase;clear hes hb2 hcase;go_roundw
     case rel =>
      rcases Je.out with⟨k1,k2,k3,k4⟩ | ⟨k1,k2,k3,k4⟩
      ·have HN:=HB.out.1 k1
       refine⟨i+1,g',cap',by go_num,by omega,hid (by rw[HN];exact zk.out),hid (by rw[HN];dsimp only;rw[k2,k3,k4]at HE2;exact HE2.out),i_⟩
      ·have HN:=HB.out.2 k1
       refine⟨i+1,g',cap',by go_num,by omega,hid (by rw[HN];exact zk.out),hid (by rw[HN];dsimp only;rw[k2,k3,k4]at HE2;exact HE2.out),i_⟩
     case measure=>simp[intOf];omega
   ·skip
    as_aux_lemma =>
     subst h;have HB:=hid (EL (base:=lv) (e:=e) HC.out.symm (by decide) xW.out);rw[<-qP.out,<-DB.out]at HB;have Jf:=hid (tZ q e.C e.L wr w.heap.size (w.heap.size+1) g cap e i rfl rfl Ms.out hpos (by omega) HT.out HP.out hlt Co);have Sy:=hid (show mh (nth q.K i)=true by rw[<-HC.out];decide);go_wp2_with (first | (go_at_call 168;refine Jf.out.mono ?_;rintro e' w1 ⟨rfl,hu1,he1,hf1⟩;have pO:=hid hu1;have kX:=hid he1;have jc:=hid (HF.out.trans hf1);have P_:=hid (HQR.out.fr hf1 HPU.out ZE.out);clear hu1 he1 hf1) | (go_at_call 170;refine(Cv q _ _ P cU mb n lv D i _ pO.out P_.out HK.out hn hlt Sy.out).mono ?_;rintro e' w' ⟨rfl,rfl⟩) | (go_at_call 169;refine(CG _ w.heap.size (w.heap.size+1) g cap e.st e.mi e.me e.op _ nx F kX.out hpos (by omega) (by omega) (by omega) HT.out xW.out DB.out).mono ?_;rintro e' w2 ⟨rfl,hx,hb2⟩));obtain⟨g',cap',st',Ee,op',hes,hcase⟩:=hx;have zk:=hid (pO.out.below hb2 Co);have i_:=hid (oF jc.out hb2);have HE2:=hid hes;have Je:=hid hcase;clear hes hb2 hcase;go_roundw
     case rel =>
      rcases Je.out with⟨k1,k2,k3,k4⟩ | ⟨k1,k2,k3,k4⟩
      ·have HN:=HB.out.1 k1
       refine⟨i+1,g',cap',by go_num,by omega,hid (by rw[HN];exact zk.out),hid (by rw[HN];dsimp only;rw[k2,k3,k4]at HE2;exact HE2.out),i_⟩
      ·have HN:=HB.out.2 k1
       refine⟨i+1,g',cap',by go_num,by omega,hid (by rw[HN];exact zk.out),hid (by rw[HN];dsimp only;rw[k2,k3,k4]at HE2;exact HE2.out),i_⟩
     case measure=>simp[intOf];omega
   ·skip
    as_aux_lemma =>
     subst h;have HB:=hid (EL (base:=lv) (e:=e) HC.out.symm (by decide) xW.out);rw[<-qP.out,<-DB.out]at HB;have Jf:=hid (tZ q e.C e.L wr w.heap.size (w.heap.size+1) g cap e i rfl rfl Ms.out hpos (by omega) HT.out HP.out hlt Co);have Sy:=hid (show mh (nth q.K i)=true by rw[<-HC.out];decide);go_wp2_with (first | (go_at_call 168;refine Jf.out.mono ?_;rintro e' w1 ⟨rfl,hu1,he1,hf1⟩;have pO:=hid hu1;have kX:=hid he1;have jc:=hid (HF.out.trans hf1);have P_:=hid (HQR.out.fr hf1 HPU.out ZE.out);clear hu1 he1 hf1) | (go_at_call 170;refine(Cv q _ _ P cU mb n lv D i _ pO.out P_.out HK.out hn hlt Sy.out).mono ?_;rintro e' w' ⟨rfl,rfl⟩) | (go_at_call 169;refine(CG _ w.heap.size (w.heap.size+1) g cap e.st e.mi e.me e.op _ nx F kX.out hpos (by omega) (by omega) (by omega) HT.out xW.out DB.out).mono ?_;rintro e' w2 ⟨rfl,hx,hb2⟩));obtain⟨g',cap',st',Ee,op',hes,hcase⟩:=hx;have zk:=hid (pO.out.below hb2 Co);have i_:=hid (oF jc.out hb2);have HE2:=hid hes;have Je:=hid hcase;clear hes hb2 hcase;go_roundw
     case rel =>
      rcases Je.out with⟨k1,k2,k3,k4⟩ | ⟨k1,k2,k3,k4⟩
      ·have HN:=HB.out.1 k1
       refine⟨i+1,g',cap',by go_num,by omega,hid (by rw[HN];exact zk.out),hid (by rw[HN];dsimp only;rw[k2,k3,k4]at HE2;exact HE2.out),i_⟩
      ·have HN:=HB.out.2 k1
       refine⟨i+1,g',cap',by go_num,by omega,hid (by rw[HN];exact zk.out),hid (by rw[HN];dsimp only;rw[k2,k3,k4]at HE2;exact HE2.out),i_⟩
     case measure=>simp[intOf];omega
   ·skip
    as_aux_lemma =>
     subst h;have HN:=hid (qP.out.trans (P9 HC.out.symm));have aeH:=hid (xR wr w.heap.size (w.heap.size+1) g cap e.st e.mi e.me e.op Ms.out (by omega) (by omega) (by omega) HIS.out);have HOK:=hid (X4 aeG.out HIS.out);have Sv:=hid (X3 e);have hl5:=HOK.out.2;have hl6:=OX HOK.out.1;have TY:=hid (yV HOK.out.1);have aeJ:=hid (fun(X:World) hx=>X2 (w:=X) (B:=w.heap.size) (E:=w.heap.size+1) (g:=g) (cap:=cap) (e:=e) hx);generalize wQ e=e5 at *;go_wp2_with (first | (go_at_call 171;refine aeH.out.mono ?_;rintro e' w1 ⟨rfl,hx,hb1⟩;have kX:=hid (aeJ.out w1 hx);have pO:=hid (HP.out.below hb1 Co);have jc:=hid (oF HF.out hb1);clear hx hb1) | (go_at_call 168;refine(tZ q e.C e.L _ w.heap.size (w.heap.size+1) g cap e5 i Sv.out.1 Sv.out.2 kX.out hl6 (by omega) TY.out pO.out hlt Co).mono ?_;rintro e' w2 ⟨rfl,hu2,he2,hf2⟩;have zk:=hid hu2;have HE2:=hid he2;have i_:=hid (jc.out.trans hf2);clear hu2 he2 hf2));go_roundw
     case rel=>exact⟨i+1,g,cap,by go_num,by omega,hid (by rw[HN.out];exact zk.out),hid (by rw[HN.out];exact HE2.out),i_⟩
     case measure=>simp[intOf];omega
   ·skip
    as_aux_lemma =>
     subst h;have HB:=hid (Tf (base:=lv) (e:=e) HC.out.symm);rw[<-qP.out]at HB;obtain⟨m,hm⟩:∃m,e.st.length=m+1:=⟨e.st.length - 1,by omega⟩;have HM:=hid hm;have aeK:=hid (P7 wr w.heap.size (w.heap.size+1) g cap e.st e.mi e.me e.op m Ms.out hm (by omega) (by omega));clear hm;go_wp2_with (first | (go_at_call 167;refine aeK.out.mono ?_;rintro e' w1 ⟨rfl,hx,hb1⟩));obtain⟨st',me',hes,hcase⟩:=hx;have pO:=hid (HP.out.below hb1 Co);have jc:=hid (oF HF.out hb1);have kX:=hid hes;have Je:=hid hcase;clear hes hb1 hcase;go_roundw
     case rel =>
      rcases Je.out with⟨k1,k2,k3⟩ | ⟨k1,k2,k3,k4⟩ | ⟨k1,k2,k3,k4,k5,k6⟩ | ⟨k1,k2,k3,k4,k5⟩
      ·have HN:=HB.out.1 k1
       refine⟨i+1,g,cap,by go_num,by omega,hid (by rw[HN];exact pO.out),hid (by rw[HN];rw[k2,k3]at kX;exact kX.out),jc⟩
      ·have HN:=HB.out.2.1 k1 k2
       refine⟨i+1,g,cap,by go_num,by omega,hid (by rw[HN];exact pO.out),hid (by rw[HN];dsimp only;rw[k3,k4]at kX;exact kX.out),jc⟩
      ·have HN:=HB.out.2.2.1 k1 k2 k3 k4
       refine⟨i+1,g,cap,by go_num,by omega,hid (by rw[HN];exact pO.out),hid (by rw[HN];dsimp only;rw[k5,k6,<-EM e.st m HM.out]at kX;exact kX.out),jc⟩
      ·have HN:=HB.out.2.2.2 k1 k2 k3
       refine⟨i+1,g,cap,by go_num,by omega,hid (by rw[HN];exact pO.out),hid (by rw[HN];rw[k4,k5]at kX;exact kX.out),jc⟩
     case measure=>simp[intOf];omega
   ·skip
    as_aux_lemma =>
     subst h;have HN:=hid (qP.out.trans (aah HC.out.symm));have p2:=HP.out.l i hlt;have p3:=HP.out.soft (i * 4+3) (by omega);have HSL:=hid (HP.out.LN hlt lv);have aeL:=hid (Ms.out.fr (T:=[q.U]) (jT wr q.U (i * 4+3) (.int .i64 lv)) (fun k hk=>by rw[ak.1 hk];exact Co));go_wp2;go_roundw
     case rel=>exact⟨i+1,g,cap,by go_num,by omega,hid (by rw[HN.out];exact HSL.out),hid (by rw[HN.out];exact aeL.out),hid (HF.out.set (ak.2 rfl) _)⟩
     case measure=>simp[intOf];omega
   ·skip
    as_aux_lemma =>
     subst h;have HN:=hid (qP.out.trans (W_ HC.out.symm));go_wp2;go_roundw
     case rel=>exact⟨i+1,g,cap,by go_num,by omega,hid (by rw[HN.out];exact HP.out),hid (by rw[HN.out];exact Ms.out),HF⟩
     case measure=>simp[intOf];omega
   ·skip
    as_aux_lemma =>
     obtain⟨hb1,hb2,hb3,hb4,hb5,hb6⟩:=h;have HN:=hid (qP.out.trans (OU (by rw[<-HC.out];exact hb1) (by rw[<-HC.out];exact hb2) (by rw[<-HC.out];exact hb3) (by rw[<-HC.out];exact hb4) (by rw[<-HC.out];exact hb5) (by rw[<-HC.out];exact hb6)));have hq:¬c=16/\¬c=14/\¬c=17/\¬c=15:=by unfold begins at hb1;simp at hb1;omega
     have hq2:¬c=19/\¬c=20/\¬c=21:=by unfold mh at hb2;simp at hb2;omega
     obtain⟨q1,q2,q3,q4⟩:=hq;obtain⟨q5,q6,q7⟩:=hq2;have Jf:=hid (tZ q e.C e.L wr w.heap.size (w.heap.size+1) g cap e i rfl rfl Ms.out hpos (by omega) HT.out HP.out hlt Co);clear hb1 hb2;go_wp2_with (first | (go_at_call 168;refine Jf.out.mono ?_;rintro e' w1 ⟨rfl,hu1,he1,hf1⟩;have pO:=hid hu1;have kX:=hid he1;have jc:=hid (HF.out.trans hf1);clear hu1 he1 hf1));go_roundw
     case rel=>exact⟨i+1,g,cap,by go_num,by omega,hid (by rw[HN.out];exact pO.out),hid (by rw[HN.out];exact kX.out),jc⟩
     case measure=>simp[intOf];omega
  ·have hie:i=q.n:=by omega
   have Ge:=hid (show US wr q Z.C Z.L by rw[HZ.out,<-hie];exact HP.out);have y_:¬(i:Int)<(q.n:Int):=by omega
   clear hie;go_wp2;go_end0;exact⟨rfl,Ge.out,HF.out⟩
end Go.Proofs.YtnakejhohdbfdacGreatDoor

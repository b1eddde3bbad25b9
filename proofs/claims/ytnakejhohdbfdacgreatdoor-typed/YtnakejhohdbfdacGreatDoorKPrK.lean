import Derived.Test.YtnakejhohdbfdacGreatDoorKRsK
import Derived.Test.YtnakejhohdbfdacGreatDoorKMh
namespace Go.Proofs.YtnakejhohdbfdacGreatDoor
open Go.RowKit Lev Go.Maps
theorem fr_below {T:List Nat}{w wr w':World}(h:Fr T w wr)(hb:Below w.heap.size wr w'):Fr T w w' :=
 ⟨hb.os.trans h.os,hb.tape.trans h.tape,hb.output.trans h.output,Nat.le_trans h.size hb.size,fun k hk hs=>(hb.block k hk).trans (h.block k hk hs)⟩
theorem US.below {w w':World}{q:UH}{C L:List Int}{B:Nat}(h:US w q C L)(hb:Below B w w')(hU:q.U<B):US w' q C L :=
 ⟨fun i hi=>(hb.cell (p:=⟨q.U,i * 4,none⟩) hU).trans (h.r i hi),fun i hi=>(hb.cell (p:=⟨q.U,i * 4+1,none⟩) hU).trans (h.k i hi),fun i hi=>(hb.cell (p:=⟨q.U,i * 4+2,none⟩) hU).trans (h.c i hi),fun i hi=>(hb.cell (p:=⟨q.U,i * 4+3,none⟩) hU).trans (h.l i hi),fun j hj=>(hb.frozen (p:=⟨q.U,j,none⟩) hU).trans (h.soft j hj),h.lC,h.lL⟩
def pdiE (e:Emb):Emb:=if 0<e.mi then { e with mi:=e.mi - 1 } else if 0<e.op then { e with me:=0,st:=popI e.st.length e.st,op:=e.op - 1 } else e
theorem pdi_step {K:List Int}{base:Int}{i:Nat}{e:Emb}(hc:nth K i=22):embStep K base i e=hold (pdiE e) i:=by
 have h1:begins (nth K i)=false:=by rw[hc];rfl
 have h2:ini (nth K i)=false:=by rw[hc];rfl
 rw[embStep,h1,if_neg Bool.false_ne_true,h2,if_neg Bool.false_ne_true,if_pos hc];rfl
theorem pdi_es {w:World}{B E g cap:Nat}{e:Emb}(h:∃st' mi' me' op',ES w B E g cap st' mi' me' op'∧((0<e.mi∧st'=e.st∧mi'=e.mi - 1∧me'=e.me∧op'=e.op)∨(e.mi=0∧0<e.op∧st'=popI e.st.length e.st∧mi'=0∧me'=0∧op'=e.op - 1)∨(e.mi=0∧e.op=0∧st'=e.st∧mi'=0∧me'=e.me∧op'=0))):ES w B E g cap (pdiE e).st (pdiE e).mi (pdiE e).me (pdiE e).op:=by
 obtain⟨st',mi',me',op',hes,h | h | h⟩:=h
 ·obtain⟨k1,rfl,rfl,rfl,rfl⟩:=h
  rw[pdiE,if_pos k1];exact hes
 ·obtain⟨k1,k2,rfl,rfl,rfl,rfl⟩:=h
  rw[pdiE,if_neg (by omega),if_pos k2];dsimp only;rw[k1];exact hes
 ·obtain⟨k1,k2,rfl,rfl,rfl,rfl⟩:=h
  rw[pdiE,if_neg (by omega),if_neg (by omega),k1,k2];exact hes
theorem pdi_CL (e:Emb):(pdiE e).C=e.C∧(pdiE e).L=e.L:=by unfold pdiE;split;exact⟨rfl,rfl⟩;split <;> exact⟨rfl,rfl⟩
theorem popI_len:∀f (st:List Ent),(popI f st).length≤st.length
 | 0,st=>Nat.le_refl _
 | f+1,st=>by
   rw[popI];split
   ·rw[List.length_dropLast];omega
   ·have:=popI_len f st.dropLast;rw[List.length_dropLast]at this;omega
theorem pdi_ok {e:Emb}(h:StOk e.st.reverse)(hi:0<e.op→0<isoN e.st.reverse):StOk (pdiE e).st.reverse∧(pdiE e).st.length≤e.st.length:=by
 unfold pdiE;split
 ·exact⟨h,Nat.le_refl _⟩
 ·split
  ·next h2=>exact⟨pop_pos h (hi h2),popI_len _ _⟩
  ·exact⟨h,Nat.le_refl _⟩
set_option linter.unusedSimpArgs false in
set_option maxRecDepth 10000 in
set_option maxHeartbeats 16000000 in
theorem fn22p_any (q:UH)(P cU mb n:Nat)(lv:Int)(D:DataW Unit)(w:World)(hu:US w q q.K (List.replicate q.K.length 0))(hq:QM w q P cU mb n lv D)(hmU:mb≠q.U)(hK:q.K.length=q.n)(hn:q.n≤1000000)(hn0:0<q.n)(hb:lv=0∨lv=1) :
 Calls Tryz.prog 137 #[.pointer (some ⟨P,0,none⟩)] w fun e w'=>e=.returned (.tuple #[])∧US w' q (embTo q.K lv q.n).C (embTo q.K lv q.n).L∧Fr [q.U] w w':=by
 have c2:=hq.s.c2;have c0:=hq.s.c0;have HU:=hid hu;have HQ:=hid hq;have HK:=hid hK;have HBB:=hid hb;have hUl:q.U<w.heap.size:=World.block_lt_of_cell? _ _ (hu.r 0 hn0);have hPl:P<w.heap.size:=World.block_lt_of_cell? _ _ c2;have HPU:=hid (show P ∉ [q.U]from fun h=>hq.s.ne (List.mem_singleton.1 h));have HMU:=hid (show mb ∉ [q.U]from fun h=>hmU (List.mem_singleton.1 h));obtain⟨Z,hZ⟩:∃Z,Z=embTo q.K lv q.n:=⟨_,rfl⟩;rw[←hZ];have HZ:=hid hZ;clear hu hq hK hb hZ hmU;go_enter Tryz.func137,Tryz.ntmps137;go_wp2;go_loopw [17] (fun a wr=>∃(i g cap:Nat),a=.int .i64 i∧i≤q.n∧Hid (US wr q (embTo q.K lv i).C (embTo q.K lv i).L)∧Hid (ES wr w.heap.size (w.heap.size+1) g cap (embTo q.K lv i).st (embTo q.K lv i).mi (embTo q.K lv i).me (embTo q.K lv i).op)∧Hid (Fr [q.U] w wr)) (fun a _=>q.n - (intOf a).toNat)
 case atStart =>
  refine⟨0,w.heap.size,1,rfl,Nat.zero_le _,hid (HU.out.fr (T:=[]) (((Fr.refl _ _).alloc _).alloc _) List.not_mem_nil),hid ⟨?_,?_,by omega⟩,hid (((Fr.refl _ _).alloc _).alloc _)⟩
  ·have:=heap_alloc_new (w.alloc (.cells #[.int .i64 lv,.int .i64 (-1),.bool false] 284)) (.cells #[.slice (some ⟨w.heap.size,0,none⟩) 1 1,.int .i64 0,.int .i64 0,.int .i64 0] 287)
   rw[show(w.alloc (.cells #[.int .i64 lv,.int .i64 (-1),.bool false] 284)).heap.size=w.heap.size+1 by simp]at this;exact this
  ·exact(World.ownsRow_lit (base:=w.heap.size) (e:=284) (size:=3) w #[.int .i64 lv,.int .i64 (-1),.bool false] 1 (Nat.le_refl _) (by decide) rfl).alloc _
 case round =>
  obtain⟨i,g,cap,rfl,hin,HP,HES,HF⟩:=hrel;by_cases hlt:i<q.n
  ·have HINV:=hid (emb_inv q.K lv HBB.out i (by rw[HK.out];exact hin))
   have HNX:=hid (show embTo q.K lv (i+1)=embStep q.K lv i (embTo q.K lv i)from rfl);have hz:=HINV.out.sz;have HT:=hid (top_ok HINV.out.st);have hpos:=st_pos HINV.out.st;have hopn:(embTo q.K lv i).op≤i:=by have h1:=HINV.out.cnt;have h2:=openAt_len q.K i;omega
   have HQR:=hid (HQ.out.fr HF.out HPU.out HMU.out);have d0:=HQR.out.s.c0;have d2:=HQR.out.s.c2;have p1:=HP.out.k i hlt;have hiI:(i:Int)<(q.n:Int):=by omega
   have HIS:=hid (show 0<(embTo q.K lv i).op→0<isoN (embTo q.K lv i).st.reverse from fun h=>by have h1:=HINV.out.op;omega);obtain⟨c,hc⟩:∃c,c=nth q.K i:=⟨_,rfl⟩;obtain⟨nx,hnx⟩:∃x,x=nextOf (top (embTo q.K lv i).st).lv (oddOf q.K i):=⟨_,rfl⟩;obtain⟨F,hF⟩:∃F,F=fits (embTo q.K lv i) nx:=⟨_,rfl⟩;have HNXX:=hid hnx;have HFF:=hid hF;rw[←hc]at p1;have HC:=hid hc;have HSTO:=hid HINV.out.st;generalize embTo q.K lv i=e at *;have hsz:=HF.out.size;have hEle:=HES.out.sizeB;have hs1:=hz.1;have hs2:=hz.2.1;have hs3:=hz.2.2;clear hnx hF hc HINV hz;have hcl:c=16∨c=14∨c=17∨c=15∨c=19∨c=20∨c=21∨c=22∨c=18∨c=10∨c=9∨(begins c=false∧ini c=false∧c≠22∧c≠18∧c≠10∧c≠9):=by
    simp only[begins,ini,Bool.or_eq_false_iff,beq_eq_false_iff_ne];omega
   rcases hcl with h | h | h | h | h | h | h | h | h | h | h | h
   ·skip
    as_aux_lemma =>
     subst h;have HB:=hid (emb_begin (base:=lv) (e:=e) HC.out.symm (by decide) HNXX.out);rw[←HNX.out,←HFF.out]at HB;have HOD:=hid (show oddOf q.K i=(((16:Int) == 16) || ((16:Int) == 17)) by rw[oddOf,←HC.out];rfl);have HC46:=hid (fn46_any wr w.heap.size (w.heap.size+1) g cap e.st e.mi e.me e.op 16 nx F HES.out hpos (by omega) (by omega) HT.out (by decide) (by rw[HNXX.out,HOD.out]) HFF.out);go_wp2_with (first | (go_at_call 166;refine HC46.out.mono ?_;rintro e' w1 ⟨rfl,hx,hb1⟩));obtain⟨g',cap',st',me',hes,hcase⟩:=hx;have HU1:=hid (HP.out.below hb1 hUl);have HF1:=hid (fr_below HF.out hb1);have HE1:=hid hes;have HCS:=hid hcase;clear hes hb1 hcase;go_roundw
     case rel =>
      rcases HCS.out with⟨k1,k2,k3⟩ | ⟨k1,k2,k3,k4⟩ | ⟨k1,k2,k3,k4⟩
      ·have HN:=HB.out.1 k1
       refine⟨i+1,g',cap',by go_num,by omega,hid (by rw[HN];exact HU1.out),hid (by rw[HN];dsimp only;rw[k2,k3]at HE1;exact HE1.out),HF1⟩
      ·have HN:=HB.out.2.1 k1 k2
       refine⟨i+1,g',cap',by go_num,by omega,hid (by rw[HN];exact HU1.out),hid (by rw[HN];dsimp only;rw[k3,k4]at HE1;exact HE1.out),HF1⟩
      ·have HN:=HB.out.2.2 k1 k2
       refine⟨i+1,g',cap',by go_num,by omega,hid (by rw[HN];exact HU1.out),hid (by rw[HN];rw[k3,k4]at HE1;exact HE1.out),HF1⟩
     case measure=>simp[intOf];omega
   ·skip
    as_aux_lemma =>
     subst h;have HB:=hid (emb_begin (base:=lv) (e:=e) HC.out.symm (by decide) HNXX.out);rw[←HNX.out,←HFF.out]at HB;have HOD:=hid (show oddOf q.K i=(((14:Int) == 16) || ((14:Int) == 17)) by rw[oddOf,←HC.out];rfl);have HC46:=hid (fn46_any wr w.heap.size (w.heap.size+1) g cap e.st e.mi e.me e.op 14 nx F HES.out hpos (by omega) (by omega) HT.out (by decide) (by rw[HNXX.out,HOD.out]) HFF.out);go_wp2_with (first | (go_at_call 166;refine HC46.out.mono ?_;rintro e' w1 ⟨rfl,hx,hb1⟩));obtain⟨g',cap',st',me',hes,hcase⟩:=hx;have HU1:=hid (HP.out.below hb1 hUl);have HF1:=hid (fr_below HF.out hb1);have HE1:=hid hes;have HCS:=hid hcase;clear hes hb1 hcase;go_roundw
     case rel =>
      rcases HCS.out with⟨k1,k2,k3⟩ | ⟨k1,k2,k3,k4⟩ | ⟨k1,k2,k3,k4⟩
      ·have HN:=HB.out.1 k1
       refine⟨i+1,g',cap',by go_num,by omega,hid (by rw[HN];exact HU1.out),hid (by rw[HN];dsimp only;rw[k2,k3]at HE1;exact HE1.out),HF1⟩
      ·have HN:=HB.out.2.1 k1 k2
       refine⟨i+1,g',cap',by go_num,by omega,hid (by rw[HN];exact HU1.out),hid (by rw[HN];dsimp only;rw[k3,k4]at HE1;exact HE1.out),HF1⟩
      ·have HN:=HB.out.2.2 k1 k2
       refine⟨i+1,g',cap',by go_num,by omega,hid (by rw[HN];exact HU1.out),hid (by rw[HN];rw[k3,k4]at HE1;exact HE1.out),HF1⟩
     case measure=>simp[intOf];omega
   ·skip
    as_aux_lemma =>
     subst h;have HB:=hid (emb_begin (base:=lv) (e:=e) HC.out.symm (by decide) HNXX.out);rw[←HNX.out,←HFF.out]at HB;have HOD:=hid (show oddOf q.K i=(((17:Int) == 16) || ((17:Int) == 17)) by rw[oddOf,←HC.out];rfl);have HC46:=hid (fn46_any wr w.heap.size (w.heap.size+1) g cap e.st e.mi e.me e.op 17 nx F HES.out hpos (by omega) (by omega) HT.out (by decide) (by rw[HNXX.out,HOD.out]) HFF.out);go_wp2_with (first | (go_at_call 166;refine HC46.out.mono ?_;rintro e' w1 ⟨rfl,hx,hb1⟩));obtain⟨g',cap',st',me',hes,hcase⟩:=hx;have HU1:=hid (HP.out.below hb1 hUl);have HF1:=hid (fr_below HF.out hb1);have HE1:=hid hes;have HCS:=hid hcase;clear hes hb1 hcase;go_roundw
     case rel =>
      rcases HCS.out with⟨k1,k2,k3⟩ | ⟨k1,k2,k3,k4⟩ | ⟨k1,k2,k3,k4⟩
      ·have HN:=HB.out.1 k1
       refine⟨i+1,g',cap',by go_num,by omega,hid (by rw[HN];exact HU1.out),hid (by rw[HN];dsimp only;rw[k2,k3]at HE1;exact HE1.out),HF1⟩
      ·have HN:=HB.out.2.1 k1 k2
       refine⟨i+1,g',cap',by go_num,by omega,hid (by rw[HN];exact HU1.out),hid (by rw[HN];dsimp only;rw[k3,k4]at HE1;exact HE1.out),HF1⟩
      ·have HN:=HB.out.2.2 k1 k2
       refine⟨i+1,g',cap',by go_num,by omega,hid (by rw[HN];exact HU1.out),hid (by rw[HN];rw[k3,k4]at HE1;exact HE1.out),HF1⟩
     case measure=>simp[intOf];omega
   ·skip
    as_aux_lemma =>
     subst h;have HB:=hid (emb_begin (base:=lv) (e:=e) HC.out.symm (by decide) HNXX.out);rw[←HNX.out,←HFF.out]at HB;have HOD:=hid (show oddOf q.K i=(((15:Int) == 16) || ((15:Int) == 17)) by rw[oddOf,←HC.out];rfl);have HC46:=hid (fn46_any wr w.heap.size (w.heap.size+1) g cap e.st e.mi e.me e.op 15 nx F HES.out hpos (by omega) (by omega) HT.out (by decide) (by rw[HNXX.out,HOD.out]) HFF.out);go_wp2_with (first | (go_at_call 166;refine HC46.out.mono ?_;rintro e' w1 ⟨rfl,hx,hb1⟩));obtain⟨g',cap',st',me',hes,hcase⟩:=hx;have HU1:=hid (HP.out.below hb1 hUl);have HF1:=hid (fr_below HF.out hb1);have HE1:=hid hes;have HCS:=hid hcase;clear hes hb1 hcase;go_roundw
     case rel =>
      rcases HCS.out with⟨k1,k2,k3⟩ | ⟨k1,k2,k3,k4⟩ | ⟨k1,k2,k3,k4⟩
      ·have HN:=HB.out.1 k1
       refine⟨i+1,g',cap',by go_num,by omega,hid (by rw[HN];exact HU1.out),hid (by rw[HN];dsimp only;rw[k2,k3]at HE1;exact HE1.out),HF1⟩
      ·have HN:=HB.out.2.1 k1 k2
       refine⟨i+1,g',cap',by go_num,by omega,hid (by rw[HN];exact HU1.out),hid (by rw[HN];dsimp only;rw[k3,k4]at HE1;exact HE1.out),HF1⟩
      ·have HN:=HB.out.2.2 k1 k2
       refine⟨i+1,g',cap',by go_num,by omega,hid (by rw[HN];exact HU1.out),hid (by rw[HN];rw[k3,k4]at HE1;exact HE1.out),HF1⟩
     case measure=>simp[intOf];omega
   ·skip
    as_aux_lemma =>
     subst h;have HB:=hid (emb_ini (base:=lv) (e:=e) HC.out.symm (by decide) HNXX.out);rw[←HNX.out,←HFF.out]at HB;have HC48:=hid (fn48_any q e.C e.L wr w.heap.size (w.heap.size+1) g cap e i rfl rfl HES.out hpos (by omega) HT.out HP.out hlt hUl);have HIN:=hid (show ini (nth q.K i)=true by rw[←HC.out];decide);go_wp2_with (first | (go_at_call 168;refine HC48.out.mono ?_;rintro e' w1 ⟨rfl,hu1,he1,hf1⟩;have HU1:=hid hu1;have HE1:=hid he1;have HF1:=hid (HF.out.trans hf1);have HQ1:=hid (HQR.out.fr hf1 HPU.out HMU.out);clear hu1 he1 hf1) | (go_at_call 170;refine(fn50_any q _ _ P cU mb n lv D i _ HU1.out HQ1.out HK.out hn hlt HIN.out).mono ?_;rintro e' w' ⟨rfl,rfl⟩) | (go_at_call 169;refine(fn49_any _ w.heap.size (w.heap.size+1) g cap e.st e.mi e.me e.op _ nx F HE1.out hpos (by omega) (by omega) (by omega) HT.out HNXX.out HFF.out).mono ?_;rintro e' w2 ⟨rfl,hx,hb2⟩));obtain⟨g',cap',st',mi',op',hes,hcase⟩:=hx;have HU2:=hid (HU1.out.below hb2 hUl);have HF2:=hid (fr_below HF1.out hb2);have HE2:=hid hes;have HCS:=hid hcase;clear hes hb2 hcase;go_roundw
     case rel =>
      rcases HCS.out with⟨k1,k2,k3,k4⟩ | ⟨k1,k2,k3,k4⟩
      ·have HN:=HB.out.1 k1
       refine⟨i+1,g',cap',by go_num,by omega,hid (by rw[HN];exact HU2.out),hid (by rw[HN];dsimp only;rw[k2,k3,k4]at HE2;exact HE2.out),HF2⟩
      ·have HN:=HB.out.2 k1
       refine⟨i+1,g',cap',by go_num,by omega,hid (by rw[HN];exact HU2.out),hid (by rw[HN];dsimp only;rw[k2,k3,k4]at HE2;exact HE2.out),HF2⟩
     case measure=>simp[intOf];omega
   ·skip
    as_aux_lemma =>
     subst h;have HB:=hid (emb_ini (base:=lv) (e:=e) HC.out.symm (by decide) HNXX.out);rw[←HNX.out,←HFF.out]at HB;have HC48:=hid (fn48_any q e.C e.L wr w.heap.size (w.heap.size+1) g cap e i rfl rfl HES.out hpos (by omega) HT.out HP.out hlt hUl);have HIN:=hid (show ini (nth q.K i)=true by rw[←HC.out];decide);go_wp2_with (first | (go_at_call 168;refine HC48.out.mono ?_;rintro e' w1 ⟨rfl,hu1,he1,hf1⟩;have HU1:=hid hu1;have HE1:=hid he1;have HF1:=hid (HF.out.trans hf1);have HQ1:=hid (HQR.out.fr hf1 HPU.out HMU.out);clear hu1 he1 hf1) | (go_at_call 170;refine(fn50_any q _ _ P cU mb n lv D i _ HU1.out HQ1.out HK.out hn hlt HIN.out).mono ?_;rintro e' w' ⟨rfl,rfl⟩) | (go_at_call 169;refine(fn49_any _ w.heap.size (w.heap.size+1) g cap e.st e.mi e.me e.op _ nx F HE1.out hpos (by omega) (by omega) (by omega) HT.out HNXX.out HFF.out).mono ?_;rintro e' w2 ⟨rfl,hx,hb2⟩));obtain⟨g',cap',st',mi',op',hes,hcase⟩:=hx;have HU2:=hid (HU1.out.below hb2 hUl);have HF2:=hid (fr_below HF1.out hb2);have HE2:=hid hes;have HCS:=hid hcase;clear hes hb2 hcase;go_roundw
     case rel =>
      rcases HCS.out with⟨k1,k2,k3,k4⟩ | ⟨k1,k2,k3,k4⟩
      ·have HN:=HB.out.1 k1
       refine⟨i+1,g',cap',by go_num,by omega,hid (by rw[HN];exact HU2.out),hid (by rw[HN];dsimp only;rw[k2,k3,k4]at HE2;exact HE2.out),HF2⟩
      ·have HN:=HB.out.2 k1
       refine⟨i+1,g',cap',by go_num,by omega,hid (by rw[HN];exact HU2.out),hid (by rw[HN];dsimp only;rw[k2,k3,k4]at HE2;exact HE2.out),HF2⟩
     case measure=>simp[intOf];omega
   ·skip
    as_aux_lemma =>
     subst h;have HB:=hid (emb_ini (base:=lv) (e:=e) HC.out.symm (by decide) HNXX.out);rw[←HNX.out,←HFF.out]at HB;have HC48:=hid (fn48_any q e.C e.L wr w.heap.size (w.heap.size+1) g cap e i rfl rfl HES.out hpos (by omega) HT.out HP.out hlt hUl);have HIN:=hid (show ini (nth q.K i)=true by rw[←HC.out];decide);go_wp2_with (first | (go_at_call 168;refine HC48.out.mono ?_;rintro e' w1 ⟨rfl,hu1,he1,hf1⟩;have HU1:=hid hu1;have HE1:=hid he1;have HF1:=hid (HF.out.trans hf1);have HQ1:=hid (HQR.out.fr hf1 HPU.out HMU.out);clear hu1 he1 hf1) | (go_at_call 170;refine(fn50_any q _ _ P cU mb n lv D i _ HU1.out HQ1.out HK.out hn hlt HIN.out).mono ?_;rintro e' w' ⟨rfl,rfl⟩) | (go_at_call 169;refine(fn49_any _ w.heap.size (w.heap.size+1) g cap e.st e.mi e.me e.op _ nx F HE1.out hpos (by omega) (by omega) (by omega) HT.out HNXX.out HFF.out).mono ?_;rintro e' w2 ⟨rfl,hx,hb2⟩));obtain⟨g',cap',st',mi',op',hes,hcase⟩:=hx;have HU2:=hid (HU1.out.below hb2 hUl);have HF2:=hid (fr_below HF1.out hb2);have HE2:=hid hes;have HCS:=hid hcase;clear hes hb2 hcase;go_roundw
     case rel =>
      rcases HCS.out with⟨k1,k2,k3,k4⟩ | ⟨k1,k2,k3,k4⟩
      ·have HN:=HB.out.1 k1
       refine⟨i+1,g',cap',by go_num,by omega,hid (by rw[HN];exact HU2.out),hid (by rw[HN];dsimp only;rw[k2,k3,k4]at HE2;exact HE2.out),HF2⟩
      ·have HN:=HB.out.2 k1
       refine⟨i+1,g',cap',by go_num,by omega,hid (by rw[HN];exact HU2.out),hid (by rw[HN];dsimp only;rw[k2,k3,k4]at HE2;exact HE2.out),HF2⟩
     case measure=>simp[intOf];omega
   ·skip
    as_aux_lemma =>
     subst h;have HN:=hid (HNX.out.trans (pdi_step HC.out.symm));have HC51:=hid (fn51_any wr w.heap.size (w.heap.size+1) g cap e.st e.mi e.me e.op HES.out (by omega) (by omega) (by omega) HIS.out);have HOK:=hid (pdi_ok HSTO.out HIS.out);have HCL:=hid (pdi_CL e);have hl5:=HOK.out.2;have hl6:=st_pos HOK.out.1;have HT5:=hid (top_ok HOK.out.1);have HES5:=hid (fun(X:World) hx=>pdi_es (w:=X) (B:=w.heap.size) (E:=w.heap.size+1) (g:=g) (cap:=cap) (e:=e) hx);generalize pdiE e=e5 at *;go_wp2_with (first | (go_at_call 171;refine HC51.out.mono ?_;rintro e' w1 ⟨rfl,hx,hb1⟩;have HE1:=hid (HES5.out w1 hx);have HU1:=hid (HP.out.below hb1 hUl);have HF1:=hid (fr_below HF.out hb1);clear hx hb1) | (go_at_call 168;refine(fn48_any q e.C e.L _ w.heap.size (w.heap.size+1) g cap e5 i HCL.out.1 HCL.out.2 HE1.out hl6 (by omega) HT5.out HU1.out hlt hUl).mono ?_;rintro e' w2 ⟨rfl,hu2,he2,hf2⟩;have HU2:=hid hu2;have HE2:=hid he2;have HF2:=hid (HF1.out.trans hf2);clear hu2 he2 hf2));go_roundw
     case rel=>exact⟨i+1,g,cap,by go_num,by omega,hid (by rw[HN.out];exact HU2.out),hid (by rw[HN.out];exact HE2.out),HF2⟩
     case measure=>simp[intOf];omega
   ·skip
    as_aux_lemma =>
     subst h;have HB:=hid (emb_pdf (base:=lv) (e:=e) HC.out.symm);rw[←HNX.out]at HB;obtain⟨m,hm⟩:∃m,e.st.length=m+1:=⟨e.st.length - 1,by omega⟩;have HM:=hid hm;have HC47:=hid (fn47_any wr w.heap.size (w.heap.size+1) g cap e.st e.mi e.me e.op m HES.out hm (by omega) (by omega));clear hm;go_wp2_with (first | (go_at_call 167;refine HC47.out.mono ?_;rintro e' w1 ⟨rfl,hx,hb1⟩));obtain⟨st',me',hes,hcase⟩:=hx;have HU1:=hid (HP.out.below hb1 hUl);have HF1:=hid (fr_below HF.out hb1);have HE1:=hid hes;have HCS:=hid hcase;clear hes hb1 hcase;go_roundw
     case rel =>
      rcases HCS.out with⟨k1,k2,k3⟩ | ⟨k1,k2,k3,k4⟩ | ⟨k1,k2,k3,k4,k5,k6⟩ | ⟨k1,k2,k3,k4,k5⟩
      ·have HN:=HB.out.1 k1
       refine⟨i+1,g,cap,by go_num,by omega,hid (by rw[HN];exact HU1.out),hid (by rw[HN];rw[k2,k3]at HE1;exact HE1.out),HF1⟩
      ·have HN:=HB.out.2.1 k1 k2
       refine⟨i+1,g,cap,by go_num,by omega,hid (by rw[HN];exact HU1.out),hid (by rw[HN];dsimp only;rw[k3,k4]at HE1;exact HE1.out),HF1⟩
      ·have HN:=HB.out.2.2.1 k1 k2 k3 k4
       refine⟨i+1,g,cap,by go_num,by omega,hid (by rw[HN];exact HU1.out),hid (by rw[HN];dsimp only;rw[k5,k6,←dl_take e.st m HM.out]at HE1;exact HE1.out),HF1⟩
      ·have HN:=HB.out.2.2.2 k1 k2 k3
       refine⟨i+1,g,cap,by go_num,by omega,hid (by rw[HN];exact HU1.out),hid (by rw[HN];rw[k4,k5]at HE1;exact HE1.out),HF1⟩
     case measure=>simp[intOf];omega
   ·skip
    as_aux_lemma =>
     subst h;have HN:=hid (HNX.out.trans (emb_b HC.out.symm));have p2:=HP.out.l i hlt;have p3:=HP.out.soft (i * 4+3) (by omega);have HSL:=hid (HP.out.setL hlt lv);have HES2:=hid (HES.out.fr (T:=[q.U]) (fr_set1 wr q.U (i * 4+3) (.int .i64 lv)) (fun k hk=>by rw[List.mem_singleton.1 hk];exact hUl));go_wp2;go_roundw
     case rel=>exact⟨i+1,g,cap,by go_num,by omega,hid (by rw[HN.out];exact HSL.out),hid (by rw[HN.out];exact HES2.out),hid (HF.out.set (List.mem_singleton.2 rfl) _)⟩
     case measure=>simp[intOf];omega
   ·skip
    as_aux_lemma =>
     subst h;have HN:=hid (HNX.out.trans (emb_bn HC.out.symm));go_wp2;go_roundw
     case rel=>exact⟨i+1,g,cap,by go_num,by omega,hid (by rw[HN.out];exact HP.out),hid (by rw[HN.out];exact HES.out),HF⟩
     case measure=>simp[intOf];omega
   ·skip
    as_aux_lemma =>
     obtain⟨hb1,hb2,hb3,hb4,hb5,hb6⟩:=h;have HN:=hid (HNX.out.trans (emb_else (by rw[←HC.out];exact hb1) (by rw[←HC.out];exact hb2) (by rw[←HC.out];exact hb3) (by rw[←HC.out];exact hb4) (by rw[←HC.out];exact hb5) (by rw[←HC.out];exact hb6)));have hq:¬c=16∧¬c=14∧¬c=17∧¬c=15:=by unfold begins at hb1;simp at hb1;omega
     have hq2:¬c=19∧¬c=20∧¬c=21:=by unfold ini at hb2;simp at hb2;omega
     obtain⟨q1,q2,q3,q4⟩:=hq;obtain⟨q5,q6,q7⟩:=hq2;have HC48:=hid (fn48_any q e.C e.L wr w.heap.size (w.heap.size+1) g cap e i rfl rfl HES.out hpos (by omega) HT.out HP.out hlt hUl);clear hb1 hb2;go_wp2_with (first | (go_at_call 168;refine HC48.out.mono ?_;rintro e' w1 ⟨rfl,hu1,he1,hf1⟩;have HU1:=hid hu1;have HE1:=hid he1;have HF1:=hid (HF.out.trans hf1);clear hu1 he1 hf1));go_roundw
     case rel=>exact⟨i+1,g,cap,by go_num,by omega,hid (by rw[HN.out];exact HU1.out),hid (by rw[HN.out];exact HE1.out),HF1⟩
     case measure=>simp[intOf];omega
  ·have hie:i=q.n:=by omega
   have HPZ:=hid (show US wr q Z.C Z.L by rw[HZ.out,←hie];exact HP.out);have hiI:¬(i:Int)<(q.n:Int):=by omega
   clear hie;go_wp2;go_end0;exact⟨rfl,HPZ.out,HF.out⟩
end Go.Proofs.YtnakejhohdbfdacGreatDoor

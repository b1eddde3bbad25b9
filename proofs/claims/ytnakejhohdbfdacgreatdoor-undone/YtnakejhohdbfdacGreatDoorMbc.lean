import Derived.Test.YtnakejhohdbfdacGreatDoorMbb
set_option maxHeartbeats 4000000
set_option maxRecDepth 10000
set_option linter.unusedSimpArgs false
namespace Go.Proofs.YtnakejhohdbfdacGreatDoor
open Go.RowKit j9 Go.Maps Go.Proofs.Tryz
theorem Ub:(Tryz.prog.info? 280).map (fun i=>(i.zero,i.size,i.bytes))=some (some (.agg #[.int .i32 0,.int .i64 0,.int .i64 0,.int .i64 0]),4,32):=by kernel_rfl
def cls (s:ByteArray)(k:Nat):Int:=jg.look jg.iY (Dec.rune s k)
def oP (s:ByteArray):Nat->List Value
 | 0=>[]
 | k+1=>oP s k++[.int .i32 (Dec.rune s k),.int .i64 (cls s k),.int .i64 (cls s k),.int .i64 0]
theorem CL (s:ByteArray):∀k,(oP s k).length=k * 4
 | 0=>rfl
 | k+1=>by rw[oP,aD,CL s k];simp;omega
theorem rS (s:ByteArray):∀n i,i<n->(oP s n)[i * 4]?=some (.int .i32 (Dec.rune s i))/\(oP s n)[i * 4+1]?=some (.int .i64 (cls s i))/\(oP s n)[i * 4+2]?=some (.int .i64 (cls s i))/\(oP s n)[i * 4+3]?=some (.int .i64 0)
 | 0,i,h=>absurd h (cu _)
 | n+1,i,h=>by
   have hl:=CL s n
   rcases Nat.lt_succ_iff_lt_or_eq.1 h with h1 | h1
   ·obtain⟨a1,a2,a3,a4⟩:=rS s n i h1
    rw[oP];refine⟨?_,?_,?_,?_⟩ <;> rw[aJ (by omega)] <;> assumption
   ·subst h1
    rw[oP];refine⟨?_,?_,?_,?_⟩ <;> rw[aI (by omega),hl]
    ·simp
    ·simp[show i * 4+1 - i * 4=1 by omega]
    ·simp[show i * 4+2 - i * 4=2 by omega]
    ·simp[show i * 4+3 - i * 4=3 by omega]
theorem Qn (a b c d:Int):∀u∈[Value.int .i32 a,.int .i64 b,.int .i64 c,.int .i64 d],u.oneCell'=true:=by
 intro u hu;simp at hu
 rcases hu with rfl | rfl | rfl | rfl <;> rfl
def Yc (w:World)(p:Nat)(cs:Array Value):Prop:=w.heap[p]?=some (.cells cs 260 (0,0))
theorem Qo {w:World}{B U n cap:Nat}{s:ByteArray}(h:w.ownsRow B 280 4 (.slice (some ⟨U,0,none⟩) n cap) n (oP s n)):US w ⟨U,n,Rl s n,Kl s n⟩ (Kl s n) (List.replicate (Kl s n).length 0):=by
 have hk:∀i,i<n->nth (Kl s n) i=cls s i:=fun i hi=>by simp[nth,Kl,cls,hi]
 refine⟨fun i hi=>?_,fun i hi=>?_,fun i hi=>?_,fun i hi=>?_,fun j _=>h.frozenAt j,oG s n,by rw[List.length_replicate,oG]⟩ <;> dsimp only at hi ⊢
 ·rw[h.cellAt _ (by omega),(rS s n i hi).1,Qm s hi]
 ·rw[h.cellAt _ (by omega),(rS s n i hi).2.1,hk i hi]
 ·rw[h.cellAt _ (by omega),(rS s n i hi).2.2.1,hk i hi]
 ·rw[h.cellAt _ (by omega),(rS s n i hi).2.2.2]
  have:nth (List.replicate (Kl s n).length 0) i=0:=by simp[nth,oG,hi]
  rw[this]
theorem MD {w:World}{base:Nat}{e:TypeId}{size:Nat}{v:Value}{n:Nat}{xs:List Value}(h:w.ownsRow base e size v n xs){k:Nat}{s:ByteArray}{p:Nat}(hk:w.heap[k]?=some (.stringIter s p))(q:Nat):(w.iterAt k s q).ownsRow base e size v n xs:=by
 refine⟨h.1,?_⟩
 rcases h.2 with h1 | ⟨g,cap,cur,hv,hg,hh,r⟩
 ·exact .inl h1
 ·refine .inr ⟨g,cap,cur,hv,hg,?_,r⟩
  rw[Lib.iterAt_other w k g s q (fun e=>by rw[e,hk]at hh;cases hh)];exact hh
theorem Am {w:World}{b:Nat}{s:ByteArray}{p:Nat}(h:w.heap[b]?=some (.stringIter s p)):w.iterPos b=p:=by simp[World.iterPos,h]
theorem E9 {w w1 w':World}(h:Fr [] w1 w')(hB:w.heap.size<=w1.heap.size):Below w.heap.size w1 w':=h.below hB (fun _ hk=>absurd hk aj)
theorem CM {w w':World}{i:Nat}{v:Value}(h:Below w.heap.size w w'):Below w.heap.size w (w'.setCell ⟨w.heap.size,i,none⟩ v) :=
 ⟨h.os,h.tape,h.output,aK h.size (by simp),fun k hk=>by rw[gF _ _ _ _ (by dsimp only;omega)];exact h.block k hk⟩
theorem Qq (s:ByteArray)(w:World)(hs:s.size<=1000000)(h3:Cls.TabAt w 1 jg.jv)(h4:Cls.TabAt w 2 jg.jh)(n:Nat)(hend:Dec.Ends s n)(hn0:0<n) :
 Calls prog 135 #[.string s] w fun e w'=>∃P U cU mb D,e=.returned (.pointer (some ⟨P,0,none⟩))/\US w' ⟨U,n,Rl s n,Kl s n⟩ (Kl s n) (List.replicate (Kl s n).length 0)/\QM w' ⟨U,n,Rl s n,Kl s n⟩ P cU mb n 0 D/\mb≠U/\Fr [] w w'/\w'.frozen? ⟨P,2,none⟩=false/\w.heap.size<=P/\w.heap.size<=U:=by
 obtain⟨i0,hi,hz0,hz1,hz2⟩:=fY Ub;have HT3:=hid h3;have A8:=hid h4;have l3:=h3.lt (by rw[jg.qy];decide);have l4:=h4.lt (by rw[jg.oX];decide);have s8:=hid hend;have hnb:n<=1000000:=by have:=Dec.lV s n;have:=hend.1;omega
 clear h3 h4 hend;go_enter func135,ntmps135;go_wp2_with fail;go_loopw [5] (fun _ wr=>∃(k p:Nat) (vU:Value),p<=s.size/\k<=p/\wr.heap[w.heap.size+1]?=some (.stringIter s p)/\Hid (p=Dec.pos s k)/\Hid (∀j,j<k->Dec.pos s j<s.size)/\Hid (Yc wr w.heap.size #[vU,.map none,.int .i64 0])/\Hid (wr.ownsRow (w.heap.size+1+1) 280 4 vU k (oP s k))/\Hid (Below w.heap.size w wr)) (fun _ wr=>s.size - wr.iterPos (w.heap.size+1))
 case atStart =>
  refine⟨0,0,.slice none 0 0,aN _,au _,?_,hid rfl,hid (fun j hj=>absurd hj (cu _)),hid ?_,hid (fQ _ _ _ _),hid ?_⟩
  ·have e:(w.alloc (.cells #[.slice none 0 0,.map none,.int .i64 0] 260)).heap.size=w.heap.size+1:=by simp
   rw[<-e];exact ig _ _ _
  ·exact(gC _ _ _ (by simp)).trans (gQ _ _)
  ·exact((fN _ _).alloc (au _) _).alloc (by simp) _
 case round =>
  obtain⟨k,p,vU,hp,hkp,hit,HP,HJ,HA,HO,HB⟩:=hrel;obtain⟨a1,c1,hv1⟩:=iW HO.out;subst hv1;by_cases hlt:p<s.size
  ·have hw1:=Dec.width_pos s p
   have hw2:=Dec.width_le s p hlt;have hnx:=fun ty=>gZ (P:=prog) wr (w.heap.size+1) s p ty hit hlt
   have HQ:Hid (p+(Utf8.decode s p).2=Dec.pos s (k+1)):=by rw[HP.out];rfl
   have HK:Hid ((((Utf8.decode s p).1:Nat):Int)=Dec.rune s k):=by rw[HP.out];rfl
   generalize (Utf8.decode s p).1=r at hnx HK;generalize (Utf8.decode s p).2=wd at hnx HQ hw1 hw2;have hJ2:Hid (∀j,j<k+1->Dec.pos s j<s.size):=by
    intro j hj
    rcases aH (aP hj)with h1 | h1
    ·exact HJ.out j h1
    ·rw[h1,<-HP.out];exact hlt
   have HI:=hid (iD wr (w.heap.size+1) s p (p+wd) hit);have yI:=hid (iB HB.out (show w.heap.size<=w.heap.size+1 by omega) s (p+wd));have xq:=hid ((Lib.iterAt_other wr (w.heap.size+1) w.heap.size s (p+wd) (by omega)).trans HA.out);have DN:=hid (MD HO.out hit (p+wd));have HIT:=hid hit;generalize wr.iterAt (w.heap.size+1) s (p+wd)=wi at hnx HI yI xq DN;have HC:=hid (Cls.tD (r:Nat) wi (HT3.out.below l3 yI.out) (A8.out.below l4 yI.out));have Sv:=hid (show jg.look jg.iY ((r:Nat):Int)=cls s k by rw[HK.out];rfl);generalize jg.look jg.iY ((r:Nat):Int)=c at HC Sv;clear hit HO HA;go_wp2_with fail;refine HC.out.mono ?_;rintro e w1 ⟨rfl,hb1⟩;have jc:=hid (Fr.of_below (S:=[]) hb1);have HI1:Hid (w1.heap[w.heap.size+1]?=some (.stringIter s (p+wd))):=by
    rw[hb1.block _ (aC.1 HI.out).1];exact HI
   have hA1:=(hb1.block w.heap.size (aC.1 xq.out).1).trans xq.out;have HA1:=hid hA1;have lT:=hid (iM DN.out jc.out);have HB1:=hid (yI.out.trans (hb1.mono yI.out.size));have g0:w1.cell? ⟨w.heap.size,0,none⟩=some (.slice a1 k c1):=by rw[fI w1 _ 0 _ _ _ hA1];rfl
   have za:w.heap.size<w1.heap.size:=(aC.1 hA1).1;have hil:w.heap.size+1<w1.heap.size:=(aC.1 HI1.out).1;clear hA1 hb1 HC HI yI xq DN;go_wp2_with (at_builtin;refine fV _ rfl _ _ 257 rfl (w.heap.size+1+1) 280 i0 _ 4 32 underlying257 hi hz0 hz1 hz2 rfl (by decide) _ k (oP s k) rfl ?own _ 1 1 [.int .i32 r,.int .i64 c,.int .i64 c,.int .i64 0] rfl rfl (kM _ _ _ _ (by simp)) (Qn _ _ _ _) (by unfold maxLen;omega) (by omega) ?Gk ?_)
   case own=>exact iM lT.out ((Fr.refl [] w1).alloc _)
   case Gk=>simp;omega
   intro v' w3 lK hgrow hnil;obtain⟨g',c',hv'⟩:=iQ (by omega) lK;subst hv';have hne:∀x,(Value.slice a1 k c1).ownBlock=some x->w.heap.size+1+1<=x:=fun x hx=>(lT.out.lt x hx).1
   have J':=hid (show Yc w3 w.heap.size #[.slice a1 k c1,.map none,.int .i64 0]from(hgrow.block w.heap.size (by simp;omega) (fun e=>by have:=hne _ e.symm;omega)).trans ((gC _ _ _ za).trans HA1.out));have HI3:=hid (show w3.heap[w.heap.size+1]?=some (.stringIter s (p+wd))from(hgrow.block (w.heap.size+1) (by simp;omega) (fun e=>by have:=hne _ e.symm;omega)).trans ((gC _ _ _ hil).trans HI1.out));have HB3:=hid ((HB1.out.alloc (b7 za) (.cells #[.int .i32 r,.int .i64 c,.int .i64 c,.int .i64 0] 280)).grown hgrow (by simp;omega) (fun x hx=>by have:=hne x hx;omega));have lD:=hid lK;have f0:w3.cell? ⟨w.heap.size,0,none⟩=some (.slice a1 k c1):=by rw[fI w3 _ 0 _ _ _ J'.out];rfl
   have f1:=fT w3 w.heap.size 0 _ 260 J'.out;have I3:w.heap.size+1+1<=g':=(ji lK).1;clear lK hgrow hnil hne;go_wp2;go_roundw
   case rel =>
    refine⟨k+1,p+wd,_,by omega,by omega,?_,HQ,hJ2,hid (fU w3 w.heap.size 0 _ 260 _ J'.out),hid ?_,hid (CM HB3.out)⟩
    ·rw[gF _ _ _ _ (by dsimp only;omega)];exact HI3.out
    ·rw[oP,<-Sv.out,<-HK.out]
     exact kC lD.out (jT _ w.heap.size 0 _) (fun y hy hm=>by cases hy;have h5:g'=w.heap.size:=ak.1 hm;omega)
   case measure=>rw[Am (show(w3.setCell ⟨w.heap.size,0,none⟩ _).heap[w.heap.size+1]?=some (.stringIter s (p+wd)) by rw[gF _ _ _ _ (by dsimp only;omega)];exact HI3.out),Am HIT.out];omega
  ·have hpe:p=s.size:=by omega
   have hkn:n=k:=(Dec.kW ⟨by rw[<-HP.out];exact hpe,HJ.out⟩ s8.out).symm;subst hkn;have hnx:=fun ty=>gN (P:=prog) wr (w.heap.size+1) s p ty hit hlt
   obtain⟨U,cU,hsh⟩:=iQ hn0 HO.out;cases hsh;have HU:=hid (Qo HO.out);have hUg:=ji HO.out;have abg:=hid (Ct ⟨U,n,Rl s n,Kl s n⟩ (Kl s n) (List.replicate (Kl s n).length 0) c1 wr HU.out hnb hn0);dsimp only at abg;have g0:wr.cell? ⟨w.heap.size,0,none⟩=some (.slice (some ⟨U,0,none⟩) n c1):=by rw[fI wr _ 0 _ _ _ HA.out];rfl
   have za:w.heap.size<wr.heap.size:=(aC.1 HA.out).1;clear hpe;go_wp2_with (first | (go_at_call 163;refine abg.out.mono ?_;rintro e w1 ⟨rfl,hD,hf1⟩;obtain⟨D,hD1,hD2⟩:=hD;have HD1:=hid hD1;have HD2:=hid hD2;have jc:=hid hf1;have HA1:=hid (show Yc w1 w.heap.size #[.slice (some ⟨U,0,none⟩) n c1,.map none,.int .i64 0]from(hf1.block w.heap.size za aj).trans HA.out);have f0:w1.cell? ⟨w.heap.size,1,none⟩=some (.map none):=(by rw[fI w1 _ 1 _ _ _ HA1.out];rfl);have f1:=fT w1 w.heap.size 1 _ 260 HA1.out;clear hD1 hD2 hf1));go_ret;have HA2:=fU w1 w.heap.size 1 _ 260 (.map (some wr.heap.size)) HA1.out;have hset:=jT w1 w.heap.size 1 (.map (some wr.heap.size));have hne:U ∉ [w.heap.size]:=fun h=>by have:=ak.1 h;omega
   refine⟨w.heap.size,U,c1,wr.heap.size,D,rfl,(HU.out.fr jc.out aj).fr hset hne,⟨⟨?_,?_,by dsimp only;omega⟩,?_,HD1.out.setCell (by dsimp only;omega) _,HD2.out⟩,by omega,?_,fT _ _ 2 _ 260 HA2,au _,by omega⟩
   ·rw[fI _ _ 0 _ _ _ HA2];rfl
   ·rw[fI _ _ 2 _ _ _ HA2];rfl
   ·rw[fI _ _ 1 _ _ _ HA2];rfl
   ·exact Fr.of_below (CM (HB.out.trans (E9 jc.out HB.out.size)))
end Go.Proofs.YtnakejhohdbfdacGreatDoor

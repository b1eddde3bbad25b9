import Derived.Test.YtnakejhohdbfdacGreatDoorMav
import Derived.Test.YtnakejhohdbfdacGreatDoorMay
import Derived.Maps.OwnOps
import Derived.WalkMore
import Derived.Deep.LoopGhost
set_option maxHeartbeats 8000000
set_option maxRecDepth 100000
namespace Go.Proofs.YtnakejhohdbfdacGreatDoor
open Go.RowKit j9 Go.Maps Go.Sort Go.Proofs.Tryz
theorem Ya (m:Nat):AnyZI.SortsIn prog Tryz.Al Fence.wide m :=
 ⟨fun blk off cap ss W hH hblk hsz=>fF.2 (AnyM.slices_Sort_int Tryz.Wg blk off cap ss W hH hblk hsz),
  fun p cap W=>fF.2 (AnyM.slices_Sort_int_none Tryz.Wg p cap W)⟩
theorem Qk (mb:Option Nat)(w:World):Calls prog 186 #[.map mb] w fun e w'=>e=.returned (.func (.func 216) #[] #[.pointer (some ⟨w.heap.size,0,none⟩)])/\w'=w.alloc (.cells #[.map mb] 258) :=
 fF.1 (AnyZI.keys_in Tryz.Wf Fence.wide 5 trivial rfl mb w)
theorem Jk (b nn bm:Nat)(D:DataW Unit)(out:List (Nat × Nat))(w:World)(hown:w.ownsMap prog 3 (plainElem prog 3) b nn D)(hm:w.cell? ⟨bm,0,none⟩=some (.map (some b)))(ho:AM D out)(hs:out.Pairwise (fun a b=>a.1<b.1))(hl:out.length<=1000000) :
 Calls prog 185 #[.func (.func 216) #[] #[.pointer (some ⟨bm,0,none⟩)]] w fun e w'=>∃v,e=.returned v/\w'.ownsRow w.heap.size 3 1 v out.length (jk (out.map (·.1)))/\Fr [] w w':=by
 have hsz:Maps.size D=out.length:=(ho.keys (hown.canon sX) hs (List.Perm.refl _)).2.2;have hseq:SeqGives Fence.wide 2 prog 216 #[.pointer (some ⟨bm,0,none⟩)] encZ (fun ss=>ss.Perm (intKeys D)) (Maps.size D) w :=
  AnyZI.keys_gives (ρ:=Tryz.Eg) { Tryz.Wf with } Fence.wide _ trivial rfl (by omega) bm b nn D w (fC _ _ hm) hm hown
 have cS:=AnyZI.sorted_in Tryz.T6 Fence.wide 5 trivial trivial trivial trivial rfl (by omega) (Ya _) (g_ func215 (by kernel_rfl) rfl) 216 #[.pointer (some ⟨bm,0,none⟩)] trivial (g_ func216 (by kernel_rfl) rfl) _ (Maps.size D) (by rw[hsz];unfold maxLen;omega) (by rw[hsz];omega) w hseq;refine(fF.1 cS).mono ?_;rintro e w' ⟨v,ss,rfl,hp,hrow,_,hb⟩;obtain⟨k1,k2,_⟩:=ho.keys (hown.canon sX) hs hp;refine⟨v,rfl,?_,Fr.of_below hb⟩;rw[k1,k2]at hrow;rw[show jk (out.map (·.1))=(out.map (fun p=>(p.1:Int))).map encZ by simp[jk,List.map_map,Function.comp_def]];exact hrow
theorem KH {f:Nat->Bool}{a:Nat}:∀ {d j:Nat},j<d->f (a+j)=true->mZ f a d=true
 | 0,j,h,_=>by omega
 | d+1,j,h,hf=>by
   rw[mZ];by_cases e:j=d
   ·subst e;rw[hf];simp
   ·rw[KH (d:=d) (j:=j) (by omega) hf];rfl
theorem KI {s:Sq}{C:List Int}(hb:s.kE=0\/s.kE=1):∀i,jS s C i=0\/jS s C i=1
 | 0=>by rw[jS];rcases hb with e | e <;> rw[e] <;> decide
 | i+1=>by
   rw[jS];have:=sE (cl s.I C i);split
   ·omega
   ·exact KI hb i
theorem T7 (q:UH)(C L:List Int)(S Q cQ:Nat)(s:Sq)(lv:Int)(w:World)(hu:US w q C L)(hs:SS w q S Q cQ s lv)(h0:0<s.I.length)(hl:0<=lv)(ho:s.own=way lv)(hb:s.kE=0\/s.kE=1) :
 Calls prog 140 #[.pointer (some ⟨S,0,none⟩)] w fun e w'=>e=.returned (.tuple #[])/\US w' q (brackets q.R q.K s C) L/\Fr [q.U] w w':=by
 have A6:q.U<w.heap.size:=fC _ _ (hu.r _ (hs.lt 0 h0));have hSw:S<w.heap.size:=fC _ _ hs.c0;have SF:Q<w.heap.size:=fC _ _ (hs.p 0 h0);have HU:=hid hu;have HS:=hid hs;have abd:=hid (Mw q C L S Q cQ s lv w hu hs);have sm:=hs.sm;have cp:=hs.cp;have vN:=hid (FQ q.R s.I C);have HPV:=hid (AY q.R s.I C s.I.length);have Pp:=hid (show brackets q.R q.K s C=nX q.K s (jm q.R s.I C s.I.length).out (jm q.R s.I C s.I.length).out.length C from rfl);generalize brackets q.R q.K s C=Z at *;generalize (jm q.R s.I C s.I.length)=pp at *;obtain⟨m,hm⟩:∃m,m=s.I.length:=⟨_,rfl⟩;have HM:=hid hm;rw[<-hm]at sm cp;have HO:=hid ho;have HB:=hid hb;obtain⟨n,hn⟩:∃n,n=pp.out.length:=⟨_,rfl⟩;have HN:=hid hn;have hnb:n<=1000000:=by have h5:=HPV.out.len;rw[<-hm]at h5;omega
 clear hu hs hm ho hb hn;go_enter func140,ntmps140;go_wp2;go_step3;go_wp2_with fail;refine abd.out.mono ?_;rintro e w1 ⟨rfl,⟨D,hown,hmo⟩,hf1⟩;have jc:=hid hf1;have lT:=hid hown;have T1:=hid hmo;have hsz1:=hf1.size;have hml:=hown.lt;clear hown hmo hf1 abd;go_wp2_with fail;go_step3;go_wp2_with (first | (go_at_call 186;refine(Qk _ _).mono ?_;rintro e w' ⟨rfl,rfl⟩));have hkc:(w1.alloc (.cells #[.map (some w.heap.size)] 258)).cell? ⟨w1.heap.size,0,none⟩=some (.map (some w.heap.size)):=by rw[fX (hn:=rfl)];rfl
 refine(Jk w.heap.size _ w1.heap.size D pp.out _ (lT.out.alloc _) hkc T1.out HPV.out.so (by rw[<-HN.out];exact hnb)).mono ?_;rintro e w2 ⟨v,rfl,hrow,hf2⟩;obtain⟨a1,c1,hv1⟩:=iW hrow;rw[<-HN.out]at hv1 hrow;rw[fD]at hrow;subst hv1;have HR2:=hid hrow;have T8:Fr [] w1 w2:=((Fr.refl [] w1).alloc _).trans hf2;have i_:=hid (jc.out.trans T8);have jO:=hid (uU lT.out T8 aj);have zk:=hid (HU.out.fr i_.out aj);have HS2:=hid (HS.out.fr i_.out aj aj);have hsz2:=T8.size;clear hkc hrow hf2 T8;go_wp2;go_loopg [15] n (fun g a wr=>∃(k:Nat),a=.int .i64 k/\k<=n/\g=n - k/\Hid (US wr q (nX q.K s pp.out k C) L)/\Hid (Fr [q.U] w2 wr))
 case atStart=>exact⟨0,rfl,aN _,rfl,zk,hid (Fr.refl _ _)⟩
 case round =>
  obtain⟨k,rfl,hk,rfl,Wh,HF⟩:=hrel;by_cases hlt:k<n
  ·have hkr:k<pp.out.length:=by rw[<-HN.out];exact hlt
   obtain⟨o,c,hoc⟩:∃o c,(pp.out[k]?).getD (0,0)=(o,c):=⟨_,_,rfl⟩;obtain⟨h1,h2⟩:=vN.out k hkr;rw[hoc]at h1 h2;dsimp only at h1 h2;rw[<-HM.out]at h2;have hmem:(o,c)∈pp.out:=by rw[<-hoc,aA hkr];exact bB hkr
   obtain⟨gk,ck,hsh⟩:=iQ (by omega) HR2.out;cases hsh;have hgk:=ji HR2.out;have hgU:gk ∉ [q.U]:=by simp;omega
   have e1:wr.cell? ⟨gk,k,none⟩=some (.int .i64 (o:Nat)):=by
    refine HF.out.cell ?_ hgU;rw[nF HR2.out (by rw[cP];exact HN.out.symm) k hlt]
    congr 3
    rw[iP,cA,aA hkr];rw[aA hkr]at hoc;simp at hoc;simp[hoc]
   have HOW:=hid (uU jO.out HF.out (by simp;omega));have HAT:=hid (T1.out.h _ hmem).2;have Wi:=hid (HS2.out.fr HF.out (fun hm=>HS.out.ne.1 (ak.1 hm)) (fun hm=>HS.out.ne.2 (ak.1 hm)));have c0:=Wi.out.c0;rw[<-HM.out]at c0;have HST:=hid (show nX q.K s pp.out (k+1) C=wH q.K s (o,c) (nX q.K s pp.out k C) by rw[nX,hoc]);generalize nX q.K s pp.out k C=C1 at *;obtain⟨d,hd⟩:∃d,c - (o+1)=d:=⟨_,rfl⟩;have HD:=hid hd;have hdm:o+1+d=c:=by omega
   have wX:(k:Int)<(n:Int):=by omega
   have hI1:((o:Int)+1)<=(c:Int):=by omega
   have hI2:(c:Int)<=(cQ:Int):=by omega
   have hI3:(c:Int)<=(m:Int):=by omega
   have hca:¬cQ=o+1:=by omega
   have hwl:=HF.out.size;have abe:=hid (fun v X (hf:Fr [] wr X)=>PD q C1 L S Q cQ s lv o c v X (Wh.out.fr hf aj) (Wi.out.fr hf aj aj) (by rw[<-HM.out];omega) (by rw[<-HM.out];omega));have Qj:=hid (fun X (hf:Fr [] wr X)=>Cm q S Q cQ s lv X (Wi.out.fr hf aj aj) hl);have aeT:=hid (fun X (hf:Fr [] wr X)=>T5 q C1 L S Q cQ s lv o X (Wh.out.fr hf aj) (Wi.out.fr hf aj aj) (by rw[<-HM.out];omega) HB.out);have abf:=hid (KI (s:=s) (C:=C1) HB.out o);have HBS:=hid (show wH q.K s (o,c) C1=if mZ (fun k=>side (cl s.I C1 k) == way lv) (o+1) d then become q.K s.I c (way lv) (become q.K s.I o (way lv) C1)else if mZ (fun k=>decide (0<=side (cl s.I C1 k))) (o+1) d then become q.K s.I c (jS s C1 o) (become q.K s.I o (jS s C1 o) C1)else C1 by rw[wH,HO.out,HD.out]);generalize jS s C1 o=ya at *;clear hkr hoc hmem hgU hd;go_wp2_with (first | (at_lookup;refine wpList_lookup_own_int _ rfl _ _ 258 rfl 3 3 .i64 sX underlying258 underlying3 (Cr _) w.heap.size _ D rfl HOW.out _ (kN o) rfl (keyOf_int_mk underlying3 (f_ (by omega))) ?_;intro c2 hat hwc;obtain rfl:c2=(c:Int):=(by have h5:=hat.symm.trans (HAT.out _);simpa using h5);clear hat hwc));rw[HD.out];clear e1 c0 HOW HAT;go_loopg [31,6] d (fun g jj x wx=>∃(t:Nat) (xb:Int),jj=.int .i64 t/\t<=d/\g=d - t/\x=.int .i64 xb/\Hid (xb=if mZ (fun k=>decide (0<=side (cl s.I C1 k))) (o+1) t then ya else -1)/\Hid (mZ (fun k=>side (cl s.I C1 k) == way lv) (o+1) t=false)/\Hid (Fr [] wr wx))
   case atStart=>exact⟨0,-1,rfl,aN _,rfl,rfl,hid rfl,hid rfl,hid (Fr.refl _ _)⟩
   case round =>
    obtain⟨t,xb,rfl,htd,rfl,rfl,HXB,HAO,Bc⟩:=hrel;by_cases htl:t<d
    ·have hts:o+1+t<s.I.length:=by rw[<-HM.out];omega
     obtain⟨i,hi⟩:∃i,i=iP s.I (o+1+t):=⟨_,rfl⟩;obtain⟨cc,hcc⟩:∃cc,cc=cl s.I C1 (o+1+t):=⟨_,rfl⟩;obtain⟨z,hz⟩:∃z,z=side cc:=⟨_,rfl⟩;have p1:wr.cell? ⟨Q,o+1+t,none⟩=some (.pointer (some ⟨q.U,i * 4,none⟩)):=by rw[hi];exact(Wi.out.fr Bc.out aj aj).p _ hts
     have p2:wr.cell? ⟨q.U,i * 4+2,none⟩=some (.int .i64 cc):=by rw[hi,hcc];exact(Wh.out.fr Bc.out aj).c _ (Wi.out.lt _ hts)
     have T9:=hid (xP cc);rw[<-hz]at T9;have wW:=hid (sE cc);rw[<-hz]at wW;have HA1:=hid (show mZ (fun k=>side (cl s.I C1 k) == way lv) (o+1) (t+1)=(mZ (fun k=>side (cl s.I C1 k) == way lv) (o+1) t || (z == way lv)) by rw[mZ,hz,hcc]);have HA2:=hid (show mZ (fun k=>decide (0<=side (cl s.I C1 k))) (o+1) (t+1)=(mZ (fun k=>decide (0<=side (cl s.I C1 k))) (o+1) t || decide (0<=z)) by rw[mZ,hz,hcc]);have Yb:=hid (fun(h:z=way lv)=>KH (f:=fun k=>side (cl s.I C1 k) == way lv) (a:=o+1) (d:=d) (j:=t) htl (by rw[<-hcc,<-hz];simp[h]));clear hi hcc hz;have V6:(t:Int)<(d:Int):=by omega
     have aiU:=hid (B4 lv);clear hts;by_cases ez:z=way lv
     ·have HZ2:=hid (show nX q.K s pp.out (k+1) C=become q.K s.I c (way lv) (become q.K s.I o (way lv) C1) by rw[HST.out,HBS.out,aE (Yb.out ez)])
      generalize way lv=yo at *;subst ez;go_wp2_with (first | (go_at_call 187;refine(T9.out _).mono ?_;rintro e w' ⟨rfl,rfl⟩) | (go_at_call 188;refine(Qj.out _ ?_).mono ?_;(first | exact Bc.out | exact Bc.out.drewN _ | exact(Bc.out.drewN _).drewN _);rintro e w' ⟨rfl,mm,rfl⟩) | (go_at_call 189;refine(abe.out _ _ ?_).mono ?_;(first | exact Bc.out | exact Bc.out.drewN _ | exact(Bc.out.drewN _).drewN _);rintro e w' ⟨rfl,hu',hf'⟩;have T_:=hid hu';have jQ:=hid hf';clear hu' hf'));go_roundg (n - (k+1))
      case measure=>omega
      case rel=>exact⟨k+1,by go_num,by omega,rfl,hid (by rw[HZ2.out];exact T_.out),hid ((HF.out.trans (Bc.out.mono (fun k hk=>absurd hk aj))).trans jQ.out.CK)⟩
     ·have ezb:(z == way lv)=false:=by simp[ez]
      have Ql:=hid (show mZ (fun k=>side (cl s.I C1 k) == way lv) (o+1) (t+1)=false by rw[HA1.out,HAO.out,ezb];rfl);by_cases en:z=-1
      ·have vI:=hid (show xb=if mZ (fun k=>decide (0<=side (cl s.I C1 k))) (o+1) (t+1)then ya else -1 by rw[HA2.out,en];simp;exact HXB.out)
       generalize way lv=yo at *;subst en;clear Yb HA1 HA2;go_wp2_with (first | (go_at_call 187;refine(T9.out _).mono ?_;rintro e w' ⟨rfl,rfl⟩) | (go_at_call 188;refine(Qj.out _ ?_).mono ?_;(first | exact Bc.out | exact Bc.out.drewN _ | exact(Bc.out.drewN _).drewN _);rintro e w' ⟨rfl,mm,rfl⟩));go_roundg (d - (t+1))
       case measure=>omega
       case rel=>exact⟨t+1,xb,by go_num,by omega,rfl,rfl,vI,Ql,hid (Bc.out.drewN _)⟩
      ·have hz0:0<=z:=by have:=wW.out;omega
       have enb:(z == -1)=false:=by simp[en]
       have vI:=hid (show ya=if mZ (fun k=>decide (0<=side (cl s.I C1 k))) (o+1) (t+1)then ya else -1 by rw[HA2.out,bQ hz0];simp);generalize way lv=yo at *;clear Yb HA1 HA2;go_wp2_with (first | (go_at_call 187;refine(T9.out _).mono ?_;rintro e w' ⟨rfl,rfl⟩) | (go_at_call 188;refine(Qj.out _ ?_).mono ?_;(first | exact Bc.out | exact Bc.out.drewN _ | exact(Bc.out.drewN _).drewN _);rintro e w' ⟨rfl,mm,rfl⟩) | (go_at_call 190;refine(aeT.out _ ?_).mono ?_;(first | exact Bc.out | exact Bc.out.drewN _ | exact(Bc.out.drewN _).drewN _);rintro e w' ⟨rfl,hf'⟩;have jQ:=hid hf';clear hf'));go_roundg (d - (t+1))
       case measure=>omega
       case rel=>exact⟨t+1,ya,by go_num,by omega,rfl,rfl,vI,Ql,hid (Bc.out.trans jQ.out.CK)⟩
    ·have hte:t=d:=by omega
     have V6:¬(t:Int)<(d:Int):=by omega
     have Ql:=hid (show mZ (fun k=>side (cl s.I C1 k) == way lv) (o+1) d=false by rw[<-hte];exact HAO.out);have Ua:=hid (show xb=if mZ (fun k=>decide (0<=side (cl s.I C1 k))) (o+1) d then ya else -1 by rw[<-hte];exact HXB.out);clear hte HAO HXB;cases hst:mZ (fun k=>decide (0<=side (cl s.I C1 k))) (o+1) d with
     | true =>
       have hxb:xb=ya:=by rw[Ua.out,hst];rfl
       have HZ2:=hid (show nX q.K s pp.out (k+1) C=become q.K s.I c ya (become q.K s.I o ya C1) by rw[HST.out,HBS.out,ay (by rw[Ql.out];exact aG),aE hst]);subst hxb;have hyn:(xb == -1)=false:=by have:=abf.out;simp;omega
       have aiW:¬xb=-1:=by have:=abf.out;omega
       clear hst Ua;go_wp2_with (first | (go_at_call 189;refine(abe.out _ _ ?_).mono ?_;exact Bc.out;rintro e w' ⟨rfl,hu',hf'⟩;have T_:=hid hu';have jQ:=hid hf';clear hu' hf'));go_roundg (n - (k+1))
       case measure=>omega
       case rel=>exact⟨k+1,by go_num,by omega,rfl,hid (by rw[HZ2.out];exact T_.out),hid ((HF.out.trans (Bc.out.mono (fun k hk=>absurd hk aj))).trans jQ.out)⟩
     | false =>
       have hxb:xb=-1:=by rw[Ua.out,hst];rfl
       have HZ2:=hid (show nX q.K s pp.out (k+1) C=C1 by rw[HST.out,HBS.out,ay (by rw[Ql.out];exact aG),ay (by rw[hst];exact aG)]);subst hxb;clear hst Ua;go_wp2;go_roundg (n - (k+1))
       case measure=>omega
       case rel=>exact⟨k+1,by go_num,by omega,rfl,hid (by rw[HZ2.out];exact Wh.out.fr Bc.out aj),hid (HF.out.trans (Bc.out.mono (fun k hk=>absurd hk aj)))⟩
  ·have hke:k=n:=by omega
   have qE:=hid (show US wr q Z L by rw[Pp.out,<-HN.out,<-hke];exact Wh.out);have wX:¬(k:Int)<(n:Int):=by omega
   clear hke;go_wp2;go_end0;exact⟨rfl,qE.out,(i_.out.mono (fun k hk=>absurd hk aj)).trans HF.out⟩
end Go.Proofs.YtnakejhohdbfdacGreatDoor

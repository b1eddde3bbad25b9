import Derived.Test.YtnakejhohdbfdaaGreatDoorVal
set_option maxHeartbeats 4000000
set_option maxRecDepth 10000
namespace Go.Proofs.YtnakejhohdbfdaaGreatDoor.mE
open Go.RowKit gJ ZB uS Go.Proofs.Tryz
theorem mq {w:World}{base:Nat}{e:TypeId}{size:Nat}{v:Value}{n:Nat}{xs:List Value}(hn:0<n)(h:w.ownsRow base e size v n xs):∃g cap,v=.slice (some ⟨g,0,none⟩) n cap:=by
 rcases h.2 with⟨_,h1⟩ | ⟨g,cap,cur,hv,_⟩
 ·omega
 ·exact⟨g,cap,hv⟩
theorem Qg {s:ByteArray}{n t:Nat}(h:t<n):(gu (kl s n))[t]?=some (.int .i64 (kf s t)):=by
 rw[gu,bV,Wt s n t h];rfl
theorem Mw (s:ByteArray)(w:World)(hs:s.size<=1000000)(hT:Lib.Utf8Tabs 1 2 w)(hend:gJ.Ends s 0) :
 Calls prog 66 #[.string s] w fun e w'=>∃v,e=.returned v/\w'.ownsRow w.heap.size 3 1 v (bnd s 0).length (gu (bnd s 0))/\Below w.heap.size w w':=by
 have C7:=hide (tZ s w hs hT);have PV:=hide hend;have hz:s.size=0:=hend.1.symm;have hz1:¬(0:Int)<(s.size:Int):=by omega
 have HZ:=hide hz;clear hT hend hz;go_enter func66,ntmps66;go_wp2_with fail;refine C7.out.mono ?_;rintro e w1 ⟨n1,vm,h1,rfl,og,hb1,hn1⟩;obtain rfl:=jT h1 PV.out;obtain rfl:=hn1 rfl;have HB1:=hide hb1;clear h1 C7 hn1 og hb1;go_wp2_with fail;go_loopw [4,5] (fun v i wr=>v=.slice none 0 0/\i=.int .i64 0/\wr=w1) (fun _ _ _=>0)
 case atStart=>exact⟨rfl,rfl,rfl⟩
 case round =>
  obtain⟨rfl,rfl,rfl⟩:=hrel;go_wp2_with fail;go_loopw [7,8] (fun v i wx=>v=.slice (some ⟨wr.heap.size,0,none⟩) 1 1/\i=.int .i64 1/\wx=wr.alloc (.cells #[.int .i64 0] 3)) (fun _ _ _=>0)
  case atStart=>exact⟨rfl,rfl,rfl⟩
  case round =>
   obtain⟨rfl,rfl,rfl⟩:=hrel;go_wp2;go_ret;refine⟨_,rfl,?_,HB1.out.alloc HB1.out.size _⟩;rw[bnd,au (by rw[HZ.out];omega)];exact fE (base:=w.heap.size) (e:=3) (size:=1) wr #[.int .i64 0] 1 HB1.out.size (by decide) rfl
theorem Mx (s:ByteArray)(w:World)(hs:s.size<=1000000)(hT:Lib.Utf8Tabs 1 2 w)(m:Nat)(hm0:0<m)(hend:gJ.Ends s m) :
 Calls prog 66 #[.string s] w fun e w'=>∃v,e=.returned v/\w'.ownsRow w.heap.size 3 1 v (bnd s m).length (gu (bnd s m))/\Below w.heap.size w w':=by
 obtain⟨i0,hi,hz0,hz1,hz2⟩:=e_ info3;have C7:=hide (tZ s w hs hT);have PV:=hide hend;have hms:m<=s.size:=by have:=lU s m;have:=hend.1;omega
 have hs0:(0:Int)<(s.size:Int):=by omega
 clear hT hend;go_enter func66,ntmps66;go_wp2_with fail;refine C7.out.mono ?_;rintro e w1 ⟨n1,vm,h1,rfl,og,hb1,hn1⟩;obtain rfl:=jT PV.out h1;obtain⟨gl,cl,hvm⟩:=mq hm0 og;subst hvm;have OM:=hide og;have gll:=fZ og;have HB1:=hide hb1;clear h1 C7 hn1 og hb1;go_wp2_with fail;go_loopw [4,5] (fun v i wr=>∃j:Nat,j<=m/\i=.int .i64 j/\Hid (wr.ownsRow w1.heap.size 3 1 v j (gu (kl s j)))/\Hid (Below w1.heap.size w1 wr)) (fun _ i _=>m - (intOf i).toNat)
 case atStart=>exact⟨0,by omega,rfl,hide (eY _ _ _ _),hide (fq _ _)⟩
 case round =>
  obtain⟨j,hj,rfl,HO,HB⟩:=hrel;by_cases hjm:j<m
  ·have cx:=((HB.out.cell (p:=⟨gl,j * 3,none⟩) gll.2).trans (OM.out.cellAt (j * 3) (by omega))).trans (zg (s:=s) hjm).1
   have HC:=hide (rA (rune s j) wr);have HK:Hid (iK.kindOf (rune s j)=kf s j):=rfl;generalize rune s j=r at cx HC HK;rw[HK.out]at HC;generalize hkd:kf s j=kd at HC;have Iu:=hide hkd;clear hkd HK;go_wp2_with fail;refine HC.out.mono ?_;rintro e w2 ⟨rfl,hb2⟩;have iG:=hide ((wQ HO.out hb2).alloc (.cells #[.int .i64 kd] 3));have HB2:=hide ((HB.out.trans (hb2.mono HB.out.size)).alloc (by have:=HB.out.size;have:=hb2.size;omega) (.cells #[.int .i64 kd] 3));have hsz2:w1.heap.size<=w2.heap.size:=by have:=HB.out.size;have:=hb2.size;omega
   clear cx HC hb2;go_wp2_with (at_builtin;refine eV _ rfl _ _ 22 rfl w1.heap.size 3 i0 _ 1 8 underlying22 hi hz0 hz1 hz2 rfl (by decide) _ _ _ rfl iG.out ⟨w2.heap.size,0,none⟩ 1 1 [.int .i64 kd] rfl rfl (cell_one_new _ _ _) (one_cell _) (by unfold maxLen;omega) (by omega) (by simp;omega) ?_);intro v' w3 gM hgrow hnil;have k9:Hid (w3.ownsRow w1.heap.size 3 1 v' (j+1) (gu (kl s (j+1)))):=by
    rw[kl,<-rT,Iu.out];exact hide gM
   have HB3:=hide (HB2.out.grown hgrow (by simp;omega) (by intro x hx;exact(iG.out.lt x hx).1));clear gM hgrow hnil iG HB2;go_wp2;go_roundw
   case rel=>exact⟨j+1,by omega,by go_num,k9,HB3⟩
   case measure=>simp[intOf];omega
  ·obtain rfl:m=j:=by omega
   obtain⟨gk,ck,hvk⟩:=mq hm0 HO.out;rw[hvk]at HO;subst hvk;have gkl:=fZ HO.out;have PU:=HB.out.size;go_wp2_with fail;go_loopw [7,8] (fun v i wx=>∃q:Nat,q+1<=m/\i=.int .i64 ((q:Int)+1)/\Hid (wx.ownsRow wr.heap.size 3 1 v (kF s (q+1)).length (gu (kF s (q+1))))/\Hid (Below wr.heap.size wr wx)) (fun _ i _=>m - (intOf i).toNat)
   case atStart=>exact⟨0,by omega,rfl,hide (fE (base:=wr.heap.size) (e:=3) (size:=1) wr #[.int .i64 0] 1 (ak _) (by decide) rfl),hide ((fq _ _).alloc (ak _) _)⟩
   case round =>
    obtain⟨q,hq,rfl,HX,HY⟩:=hrel;have hlen:=pR s (q+1);have aaV:=HY.out.size;by_cases hqm:q+1<m
    ·have ajP:(q:Int)+1<(m:Int):=by omega
     have HC:=hide (Bn (kf s) gk m ck q wr (by omega) (by omega) (fun t ht=>((HY.out.cell (p:=⟨gk,t,none⟩) gkl.2).trans (HO.out.cellAt t (by omega))).trans (Qg ht)));have HJ:Hid (tL (kf s q) (pref (kf s) q) (kf s (q+1))=jn s (q+1)):=rfl;rw[HJ.out]at HC;cases hjn:jn s (q+1)
     ·rw[hjn]at HC
      have XI:=hide hjn;clear hjn HJ;have cy:=(((HY.out.cell (p:=⟨gl,(q+1) * 3+1,none⟩) (bQ gll.2 PU)).trans (HB.out.cell (p:=⟨gl,(q+1) * 3+1,none⟩) gll.2)).trans (OM.out.cellAt ((q+1) * 3+1) (by omega))).trans (zg (s:=s) (show q+1<m by omega)).2.1;generalize hps:((pos s (q+1):Nat):Int)=ps at cy;have Ip:=hide hps;clear hps;have iG:=hide (HX.out.alloc (.cells #[.int .i64 ps] 3));go_wp2_with fail;refine HC.out.mono ?_;rintro e w2 ⟨rfl,rfl⟩;go_wp2_with (at_builtin;refine eV _ rfl _ _ 22 rfl _ 3 i0 _ 1 8 underlying22 hi hz0 hz1 hz2 rfl (by decide) _ _ _ rfl iG.out ⟨w2.heap.size,0,none⟩ 1 1 [.int .i64 ps] rfl rfl (cell_one_new _ _ _) (one_cell _) (by unfold maxLen;omega) (by omega) (by simp;omega) ?_);intro v' w3 gM hgrow hnil;have k9:=hide gM;rw[Ip.out.symm]at k9;have HB3:=hide ((HY.out.alloc aaV (.cells #[.int .i64 ps] 3)).grown hgrow (by simp;omega) (by intro x hx;exact(HX.out.lt x hx).1));clear gM hgrow hnil iG cy HC;go_wp2;go_roundw
      case rel=>exact⟨q+1,by omega,by go_num,hide (by rw[p8 XI.out,yt,<-rT];exact k9.out),HB3⟩
      case measure=>simp[intOf];omega
     ·rw[hjn]at HC
      have XI:=hide hjn;clear hjn HJ;go_wp2_with fail;refine HC.out.mono ?_;rintro e w2 ⟨rfl,rfl⟩;clear HC;go_wp2;go_roundw
      case rel=>exact⟨q+1,by omega,by go_num,hide (by rw[lO XI.out];exact HX.out),HY⟩
      case measure=>simp[intOf];omega
    ·obtain rfl:m=q+1:=by omega
     have iG:=hide (HX.out.alloc (.cells #[.int .i64 s.size] 3));go_wp2_with (at_builtin;refine eV _ rfl _ _ 22 rfl _ 3 i0 _ 1 8 underlying22 hi hz0 hz1 hz2 rfl (by decide) _ _ _ rfl iG.out ⟨wr.heap.size,0,none⟩ 1 1 [.int .i64 s.size] rfl rfl (cell_one_new _ _ _) (one_cell _) (by unfold maxLen;omega) (by omega) (by simp;omega) ?_);intro v' w3 gM hgrow hnil;have k9:=hide gM;have HB3:=hide ((HY.out.alloc aaV (.cells #[.int .i64 s.size] 3)).grown hgrow (by simp;omega) (by intro x hx;exact(HX.out.lt x hx).1));clear gM hgrow hnil iG;go_wp2;go_ret;refine⟨_,rfl,?_,?_⟩
     ·rw[bnd,ay (by omega),yt,<-rT]
      exact gY k9.out (by have:=HB1.out.size;omega)
     ·have h1:=HB1.out.size
      exact(HB1.out.trans (HB.out.mono h1)).trans (HB3.out.mono (by omega))
theorem mI (s:ByteArray)(w:World)(hs:s.size<=1000000)(hT:Lib.Utf8Tabs 1 2 w)(n:Nat)(hend:gJ.Ends s n) :
 Calls prog 66 #[.string s] w fun e w'=>∃v,e=.returned v/\w'.ownsRow w.heap.size 3 1 v (bnd s n).length (gu (bnd s n))/\Below w.heap.size w w':=by
 cases n with
 | zero=>exact Mw s w hs hT hend
 | succ m=>exact Mx s w hs hT (m+1) (Nat.succ_pos _) hend
end Go.Proofs.YtnakejhohdbfdaaGreatDoor.mE

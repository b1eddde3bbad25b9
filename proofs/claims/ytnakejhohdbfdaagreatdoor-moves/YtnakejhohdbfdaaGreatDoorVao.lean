import Derived.Test.YtnakejhohdbfdaaGreatDoorVan
set_option maxHeartbeats 4000000
set_option maxRecDepth 10000
set_option linter.unusedSimpArgs false
namespace Go.Proofs.YtnakejhohdbfdaaGreatDoor
open Go.RowKit jN Lay uS Go.Proofs.Tryz
theorem MF (B V Wd E:List Int)(z:Int)(gB cB nB gV nV cV gW cW ge ce K:Nat)(w:World)(hr:jf B z)(yK:nB=B.length)(hB1:nB<=1000)(hn:nV<=1000)(yu:0<K)(hK:K<=1000)(hce:K+1<=ce)
 (hB:rowAt w gB nB B) (hV:rowAt w gV nV V) (hW:rowAt w gW nV Wd) (hE:rowAt w ge (K+1) E) (hvb:∀i,0<=nth V i/\nth V i<=1000) (hwb:∀k,k<nV->0<=nth Wd k/\nth Wd k<=429496729600)
 (hcut:∀j,j<K->cidx B (nth E j)<=cidx B (nth E (j+1))/\cidx B (nth E (j+1))<=nV) :
 Calls prog 208 #[.agg #[.slice (some ⟨gB,0,none⟩) nB cB,.slice (some ⟨gV,0,none⟩) nV cV,.slice (some ⟨gW,0,none⟩) nV cW],.slice (some ⟨ge,0,none⟩) (K+1) ce] w fun e w'=>∃vL hs,e=.returned vL/\w'.ownsRow w.heap.size 51 4 vL K hs/\lX w' w.heap.size w'.heap.size hs (zn B V Wd E K)/\Fr [] w w':=by
 obtain⟨i51,Ji,hx0,hx1,hx2⟩:=e_ Fm;obtain⟨vS,hvS⟩:∃vS:Array Value,vS=#[.slice (some ⟨gB,0,none⟩) nB cB,.slice (some ⟨gV,0,none⟩) nV cV,.slice (some ⟨gW,0,none⟩) nV cW]:=⟨_,rfl⟩;obtain⟨wb,Fz⟩:∃wb,wb=w.alloc (.cells #[.slice (some ⟨gB,0,none⟩) nB cB,.slice (some ⟨gV,0,none⟩) nV cV,.slice (some ⟨gW,0,none⟩) nV cW] 163):=⟨_,rfl⟩;have nD:=hid (show Fr [] w wb by rw[Fz];exact(Fr.refl [] w).alloc _);have qy:=hid (show wb.heap[w.heap.size]?=some (.cells #[.slice (some ⟨gB,0,none⟩) nB cB,.slice (some ⟨gV,0,none⟩) nV cV,.slice (some ⟨gW,0,none⟩) nV cW] 163 (0,0)) by rw[Fz];exact fU w _);have Cn:wb.heap.size=w.heap.size+1:=by rw[Fz];simp
 have HV:=hid hV;have HW:=hid hW;have HE:=hid hE;have Iy:=hid hvb;have PZ:=hid hwb;have Ur:=hid hcut;have HA:=hid (fun(x:Int) (X:World) (hf:Fr [] w X)=>Cx B z hr x gB cB nB (.slice (some ⟨gV,0,none⟩) nV cV) (.slice (some ⟨gW,0,none⟩) nV cW) X yK hB1 (hB.fr hf af));clear hvS hV hW hE hB hvb hwb hcut hr yK vS;have aeV:¬ce=1:=by omega
 have aeW:1<ce:=by omega
 go_enter func208,ntmps208;go_wp2_with fail;rw[<-Fz];go_loopw [5,13] (fun vL kk wr=>∃(i:Nat) (hs:List Value),kk=.int .i64 i/\i<=K/\Hid (wr.ownsRow (w.heap.size+1) 51 4 vL i hs)/\Hid (lX wr (w.heap.size+1) wr.heap.size hs (zn B V Wd E i))/\Hid (Fr [] wb wr)) (fun _ kk _=>K - (intOf kk).toNat)
 case atStart=>exact⟨0,[],rfl,aH _,hid ⟨rfl,.inl ⟨rfl,rfl⟩⟩,hid (fun j l hj=>by simp[zn]at hj),hid (Fr.refl _ _)⟩
 case round =>
  obtain⟨i,hs,rfl,hiK,HL,HI,HF⟩:=hrel;have Ad:=hid (nD.out.trans HF.out);by_cases hil:i<K
  ·have sY:(i:Int)<(K:Int):=by omega
   have aeX:(i:Int)<(K:Int)+1:=by omega
   have e0:=HE.out.fr Ad.out af i (by omega);have e1:wr.cell? ⟨ge,1+i,none⟩=some (.int .i64 (nth E (i+1))):=by rw[eu 1 i];exact HE.out.fr Ad.out af (i+1) (by omega)
   obtain⟨hc1,hc2⟩:=Ur.out i hil;obtain⟨aL,cL,qw⟩:=gA HL.out;subst qw;have Oq:=hid (ME B V Wd E i);have sZ:=hid (show lnP B V Wd E i=⟨nth E i,nth E (i+1),(mG (fun t=>nth V (cidx B (nth E i)+t)) (cidx B (nth E (i+1)) - cidx B (nth E i))).map (fun t=>t+cidx B (nth E i)),xs (fun k=>nth Wd k) ((mG (fun t=>nth V (cidx B (nth E i)+t)) (cidx B (nth E (i+1)) - cidx B (nth E i))).map (fun t=>t+cidx B (nth E i))) (cidx B (nth E (i+1)) - cidx B (nth E i))⟩from rfl);generalize nth E i=ea at *;generalize nth E (i+1)=eb at *;have AE:=hid (fO qy.out HF.out af);have s0:wr.cell? ⟨w.heap.size,0,none⟩=some (.slice (some ⟨gB,0,none⟩) nB cB):=fN AE.out (i:=0) rfl;have s1:wr.cell? ⟨w.heap.size,1,none⟩=some (.slice (some ⟨gV,0,none⟩) nV cV):=fN AE.out (i:=1) rfl;have s2:wr.cell? ⟨w.heap.size,2,none⟩=some (.slice (some ⟨gW,0,none⟩) nV cW):=fN AE.out (i:=2) rfl;have ZE:=hid (fun(X:World) (hf:Fr [] w X)=>XK V gV nV cV (cidx B ea) (cidx B eb) (.slice (some ⟨gB,0,none⟩) nB cB) (.slice (some ⟨gW,0,none⟩) nV cW) X hn hc1 hc2 (HV.out.fr hf af) Iy.out);have XL:=hid (And.intro s0 (And.intro s1 s2));have hbl:=eS _ _ s0;dsimp only at hbl;go_wp2_with fail;go_region_held (fun wz=>wz.cell? ⟨w.heap.size,0,none⟩=some (.slice (some ⟨gB,0,none⟩) nB cB)/\wz.cell? ⟨w.heap.size,1,none⟩=some (.slice (some ⟨gV,0,none⟩) nV cV)/\wz.cell? ⟨w.heap.size,2,none⟩=some (.slice (some ⟨gW,0,none⟩) nV cW))
    (first | exact uj | exact XL.out | go_keep)
    (first
      | (go_at_call 102;refine(HA.out _ _ ?fa).mono ?_;(case fa=>first | exact iy.out.trans (iD _ _ _ rfl rfl rfl rfl) | exact Ad.out.trans (iD _ _ _ rfl rfl rfl rfl));rintro e w1 ⟨rfl,hf1⟩;have iy:=hid (show Fr [] w w1 from by first | exact iy.out.trans ⟨hf1.os,hf1.tape,hf1.output,hf1.size,hf1.block⟩ | exact Ad.out.trans ⟨hf1.os,hf1.tape,hf1.output,hf1.size,hf1.block⟩);have Fu:=hid (show Fr [] wr w1 from by first | exact Fu.out.trans ⟨hf1.os,hf1.tape,hf1.output,hf1.size,hf1.block⟩ | exact⟨hf1.os,hf1.tape,hf1.output,hf1.size,hf1.block⟩);have uj:=And.intro (Fu.out.cell s0 af) (And.intro (Fu.out.cell s1 af) (Fu.out.cell s2 af));clear hf1)
      | (go_at_call 229;refine(ZE.out _ ?fb).mono ?_;(case fb=>exact iy.out.trans (iD _ _ _ rfl rfl rfl rfl));rintro e w2 ⟨go,rfl,mM,hf2⟩;have iG:=hid (gY (base':=w.heap.size+1) mM (a_ hbl Fu.out.size));have HG2:=hid (show Fr [] wr w2 from Fu.out.trans ⟨hf2.os,hf2.tape,hf2.output,hf2.size,hf2.block⟩);have hsz2:=Fu.out.size;have uj:=And.intro (HG2.out.cell s0 af) (And.intro (HG2.out.cell s1 af) (HG2.out.cell s2 af));clear mM hf2))
   all_goals (
    obtain⟨O,hO⟩:∃O,O=(mG (fun t=>nth V (cidx B ea+t)) (cidx B eb - cidx B ea)).map (fun t=>t+cidx B ea):=⟨_,rfl⟩
    have Ir:=hid (show O.length=cidx B eb - cidx B ea by rw[hO,dm,oY])
    have HON:=hid (fun t (ht:t<cidx B eb - cidx B ea)=>show fX O t<nV by
     rw[hO,Fp (by rw[oY];exact ht)]
     have:=xS (fun t=>nth V (cidx B ea+t)) (cidx B eb - cidx B ea) _ (kK (l:=mG (fun t=>nth V (cidx B ea+t)) (cidx B eb - cidx B ea)) (k:=t) (by rw[oY];exact ht))
     omega)
    rw[<-hO]at iG sZ
    clear hO
    have sU:=hid (show cidx B eb - cidx B ea<=1000 by omega)
    generalize cidx B eb - cidx B ea=N at *
    have hNB:=sU.out
    have Uc:=hid (Ad.out.trans HG2.out)
    have Us:=hid (fun(X:World) (hf:Fr [] w2 X)=>P9 Wd gW nV cW go N N O (.slice (some ⟨gB,0,none⟩) nB cB) (.slice (some ⟨gV,0,none⟩) nV cV) X hNB ((HW.out.fr Uc.out af).fr hf af) (jJ (fS iG.out hf) Ir.out) HON.out PZ.out)
    obtain⟨t0,t1,t2⟩:=uj
    have XM:=HG2.out.size
    go_wp2_with (first
     | (go_at_call 230;refine(Us.out _ ?fa).mono ?_;(case fa=>exact iD _ _ _ rfl rfl rfl rfl);rintro e w3 ⟨gx,cx,rfl,gM,hf3⟩;have oD:=hid (gY (base':=w.heap.size+1) gM (a_ hbl XM));have tA:=hid (show Fr [] w2 w3 from⟨hf3.os,hf3.tape,hf3.output,hf3.size,hf3.block⟩);have aeY:=tA.out.size;have Iz:=hid (fS HL.out (HG2.out.trans tA.out));clear gM hf3)
     | (at_builtin;refine eV _ rfl _ _ 164 rfl (w.heap.size+1) 51 i51 _ 4 64 underlying164 Ji hx0 hx1 hx2 rfl (by decide) _ i hs rfl ?own _ 1 1 [.int .i64 ea,.int .i64 eb,.slice (some ⟨go,0,none⟩) N N,.slice (some ⟨gx,0,none⟩) (N+1) cx] rfl rfl (iC _ _ _ _ (by simp)) (Ck _ _ _ _ _ _ _ _) (by unfold maxLen;omega) (by omega) ?nY ?_))
    case own=>exact Iz.out.alloc _
    case nY=>simp;omega
    intro v' w' hown hgrow hnil
    obtain⟨g',c',hv'⟩:=fR (by omega) hown
    subst hv'
    have HHO:=hid hown
    have HHG:=hid hgrow
    have iO:=hid (show Fr [] w2 (w3.alloc (.cells #[.int .i64 ea,.int .i64 eb,.slice (some ⟨go,0,none⟩) N N,.slice (some ⟨gx,0,none⟩) (N+1) cx] 51))from tA.out.alloc _)
    have Iu:=hid (fun(e:Nat) (v:Value) (m:Nat) (xs:List Value) (he:e=3\/e=2) (hh:(w3.alloc (.cells #[.int .i64 ea,.int .i64 eb,.slice (some ⟨go,0,none⟩) N N,.slice (some ⟨gx,0,none⟩) (N+1) cx] 51)).ownsRow (w.heap.size+1) e 1 v m xs)=>show w'.ownsRow (w.heap.size+1) e 1 v m xs from iV hh HHG.out (fun g hg=>by
     obtain⟨cs,t',f',h5,h6⟩:=ko (Iz.out.alloc (.cells #[.int .i64 ea,.int .i64 eb,.slice (some ⟨go,0,none⟩) N N,.slice (some ⟨gx,0,none⟩) (N+1) cx] 51)) hg
     exact⟨cs,t',f',h5,by rw[h6];rcases he with rfl | rfl <;> decide⟩))
    have ae0:w3.heap.size<=w'.heap.size:=by have h5:=hgrow.size;simp at h5;omega
    have HI4:=hid (show lX w' (w.heap.size+1) w'.heap.size (hs++[.int .i64 ea,.int .i64 eb,.slice (some ⟨go,0,none⟩) N N,.slice (some ⟨gx,0,none⟩) (N+1) cx]) (zn B V Wd E (i+1)) by
     rw[Oq.out,sZ.out]
     refine lX.snoc (l:=⟨ea,eb,O,xs (fun k=>nth Wd k) O N⟩) (n:=i) HI.out (Qk B V Wd E i).symm HL.out.1 (by have:=HG2.out.size;have:=tA.out.size;omega) (fun e v m xs he _ hh=>Iu.out e v m xs he (fS hh (HG2.out.trans iO.out))) ?_ ?_ ?_ ?_
     ·dsimp only;rw[Ir.out];exact Iu.out 3 _ _ _ (.inl rfl) (fS iG.out iO.out)
     ·dsimp only;rw[qU];exact Iu.out 2 _ _ _ (.inr rfl) (oD.out.alloc _)
     ·intro g hg;cases hg;have:=(fZ iG.out).2;show go<_;omega
     ·intro g hg;cases hg;have:=(fZ oD.out).2;show gx<_;omega)
    have gP:=hid (show Fr [] wb w' from(HF.out.trans (HG2.out.trans iO.out)).grown HHG.out (fun g hg=>by
     have:=(Iz.out.lt g hg).1;omega))
    clear hown hgrow hnil
    go_wp2
    go_roundw
    case rel=>exact⟨i+1,_,by go_num,by omega,HHO,HI4,gP⟩
    case measure=>simp[intOf];omega)
  ·obtain rfl:i=K:=by omega
   have sY:¬(i:Int)<(i:Int):=by omega
   have HIL:=hid (show lX wr w.heap.size wr.heap.size hs (zn B V Wd E i)from fun j l hj=>by
    obtain⟨vO,vX,a1,a2,a3,a4,a5,a6,a7⟩:=HI.out j l hj
    exact⟨vO,vX,a1,a2,a3,a4,gY a5 (by omega),gY a6 (by omega),a7⟩)
   go_wp2;go_ret;exact⟨_,rfl,hs,gY HL.out (by omega),HIL.out,Ad.out⟩
end Go.Proofs.YtnakejhohdbfdaaGreatDoor
namespace Go.Proofs.YtnakejhohdbfdaaGreatDoor
open Go Go.Proofs.Tryz
theorem yw (s:ByteArray)(q j:Nat)(hj:j<q):(s.extract 0 q).get! j=s.get! j:=by
 rw[<-Lib.getD_get!',<-Lib.getD_get!',Lib.extract_data,List.drop_zero,Nat.sub_zero,List.getD,List.getD,dG hj]
theorem uW (s:ByteArray)(q:Nat)(hq:q<=s.size):(s.extract 0 q).size=q:=by rw[ByteArray.size_extract];omega
theorem FA (n m b0 b1 b2 b3 c1 c2 c3:Nat)(hm:m<=n)(h1:1<m->c1=b1)(h2:2<m->c2=b2)(h3:3<m->c3=b3)(hw:(Lib.decodeN n b0 b1 b2 b3).2<=m):Lib.decodeN m b0 c1 c2 c3=Lib.decodeN n b0 b1 b2 b3:=by
 revert hw;unfold Lib.decodeN;by_cases a0:b0<128
 ·rw[ay a0,ay a0];intro _;rfl
 rw[au a0,au a0];by_cases a1:b0 / 32=6/\1<n/\b1 / 64=2
 ·rw[ay a1]
  have n2:¬b0 / 16=14:=by omega
  have n3:¬b0 / 8=30:=by omega
  by_cases a2:1<m
  ·rw[h1 a2,ay (show b0 / 32=6/\1<m/\b1 / 64=2 from⟨a1.1,a2,a1.2.2⟩)];intro _;rfl
  ·rw[au (show ¬(b0 / 32=6/\1<m/\c1 / 64=2)from fun h=>a2 h.2.1),au (show ¬(b0 / 16=14/\(1<m/\c1 / 64=2)/\2<m/\c2 / 64=2)from fun h=>n2 h.1),au (show ¬(b0 / 8=30/\(1<m/\c1 / 64=2)/\(2<m/\c2 / 64=2)/\3<m/\c3 / 64=2)from fun h=>n3 h.1)]
   split
   ·intro hw;dsimp only at hw;omega
   ·intro _;rfl
 rw[au a1,au (show ¬(b0 / 32=6/\1<m/\c1 / 64=2)from fun h=>a1 ⟨h.1,by omega,by rw[<-h1 h.2.1];exact h.2.2⟩)];by_cases a2:b0 / 16=14/\(1<n/\b1 / 64=2)/\2<n/\b2 / 64=2
 ·rw[ay a2]
  have n3:¬b0 / 8=30:=by omega
  by_cases a3:2<m
  ·rw[h1 (by omega),h2 a3,ay (show b0 / 16=14/\(1<m/\b1 / 64=2)/\2<m/\b2 / 64=2 from⟨a2.1,⟨by omega,a2.2.1.2⟩,a3,a2.2.2.2⟩)];intro _;rfl
  ·rw[au (show ¬(b0 / 16=14/\(1<m/\c1 / 64=2)/\2<m/\c2 / 64=2)from fun h=>a3 h.2.2.1),au (show ¬(b0 / 8=30/\(1<m/\c1 / 64=2)/\(2<m/\c2 / 64=2)/\3<m/\c3 / 64=2)from fun h=>n3 h.1)]
   split
   ·intro hw;dsimp only at hw;omega
   ·intro _;rfl
 rw[au a2,au (show ¬(b0 / 16=14/\(1<m/\c1 / 64=2)/\2<m/\c2 / 64=2)from fun h=>a2 ⟨h.1,⟨by omega,by rw[<-h1 h.2.1.1];exact h.2.1.2⟩,by omega,by rw[<-h2 h.2.2.1];exact h.2.2.2⟩)];by_cases a3:b0 / 8=30/\(1<n/\b1 / 64=2)/\(2<n/\b2 / 64=2)/\3<n/\b3 / 64=2
 ·rw[ay a3]
  by_cases a4:3<m
  ·rw[h1 (by omega),h2 (by omega),h3 a4,ay (show b0 / 8=30/\(1<m/\b1 / 64=2)/\(2<m/\b2 / 64=2)/\3<m/\b3 / 64=2 from⟨a3.1,⟨by omega,a3.2.1.2⟩,⟨by omega,a3.2.2.1.2⟩,a4,a3.2.2.2.2⟩)];intro _;rfl
  ·rw[au (show ¬(b0 / 8=30/\(1<m/\c1 / 64=2)/\(2<m/\c2 / 64=2)/\3<m/\c3 / 64=2)from fun h=>a4 h.2.2.2.1)]
   split
   ·intro hw;dsimp only at hw;omega
   ·intro _;rfl
 rw[au a3,au (show ¬(b0 / 8=30/\(1<m/\c1 / 64=2)/\(2<m/\c2 / 64=2)/\3<m/\c3 / 64=2)from fun h=>a3 ⟨h.1,⟨by omega,by rw[<-h1 h.2.1.1];exact h.2.1.2⟩,⟨by omega,by rw[<-h2 h.2.2.1.1];exact h.2.2.1.2⟩,by omega,by rw[<-h3 h.2.2.2.1];exact h.2.2.2.2⟩)];intro _;rfl
theorem Af (s:ByteArray)(q p:Nat)(hq:q<=s.size)(hp:p<q)(hw:p+(Utf8.decode s p).2<=q):Utf8.decode (s.extract 0 q) p=Utf8.decode s p:=by
 rw[Lib.decode_at]at hw;rw[Lib.decode_at,Lib.decode_at,uW s q hq,yw s q p hp];exact FA _ _ _ _ _ _ _ _ _ (by omega) (fun h=>by rw[yw s q _ (by omega)]) (fun h=>by rw[yw s q _ (by omega)]) (fun h=>by rw[yw s q _ (by omega)]) (by omega)
open gJ in
theorem yx {s:ByteArray}{n m:Nat}(h:gJ.Ends s n)(hm:m<=n):∀k,k<=m->gJ.pos (s.extract 0 (gJ.pos s m)) k=gJ.pos s k
 | 0,_=>rfl
 | k+1,hk=>by
   have ih:=yx h hm k (by omega);have hl:gJ.pos s k<gJ.pos s m:=gJ.kY s k m (by omega);have hs:gJ.pos s m<=s.size:=by
    rcases aA hm with h1 | h1
    ·exact bZ (h.2 m h1)
    ·rw[h1,h.1];exact ak _
   have hle:gJ.pos s (k+1)<=gJ.pos s m:=by
    rcases aA hk with h1 | h1
    ·exact bZ (gJ.kY s _ _ h1)
    ·rw[h1];exact ak _
   rw[gJ.pos,ih,Af s _ _ hs hl hle];rfl
theorem MG {s:ByteArray}{n m:Nat}(h:gJ.Ends s n)(hm:m<=n):gJ.Ends (s.extract 0 (gJ.pos s m)) m:=by
 have hs:gJ.pos s m<=s.size:=by
  rcases aA hm with h1 | h1
  ·exact bZ (h.2 m h1)
  ·rw[h1,h.1];exact ak _
 refine⟨by rw[yx h hm m (ak _),uW s _ hs],fun j hj=>?_⟩;rw[yx h hm j (by omega),uW s _ hs];exact gJ.kY s j m hj
theorem MH {s:ByteArray}{n m k:Nat}(h:gJ.Ends s n)(hm:m<=n)(hk:k<m):gJ.rune (s.extract 0 (gJ.pos s m)) k=gJ.rune s k:=by
 have hs:gJ.pos s m<=s.size:=by
  rcases aA hm with h1 | h1
  ·exact bZ (h.2 m h1)
  ·rw[h1,h.1];exact ak _
 have hle:gJ.pos s (k+1)<=gJ.pos s m:=by
  rcases aA (show k+1<=m by omega)with h1 | h1
  ·exact bZ (gJ.kY s _ _ h1)
  ·rw[h1];exact ak _
 rw[gJ.rune,gJ.rune,yx h hm k (by omega),Af s _ _ hs (gJ.kY s k m hk) hle]
end Go.Proofs.YtnakejhohdbfdaaGreatDoor
namespace Go.Proofs.YtnakejhohdbfdaaGreatDoor
open Go.RowKit jN Lay uS Go.Proofs.Tryz
def zo (K:List Int):Nat->Bool
 | 0=>false
 | k+1=>zo K k || nth K k == 10
theorem Cy {K:List Int}{P:Nat->Nat}{m:Nat}(hP:∀i j,i<j->P i<P j):∀k,Lay.early K P ((P m:Nat):Int) k=zo K (min k m)
 | 0=>by rw[Nat.zero_min];rfl
 | k+1=>by
   rw[Lay.early,Cy hP k];by_cases h:k<m
   ·rw[show min (k+1) m=min k m+1 by omega,zo,show min k m=k by omega,aZ (by have:=hP k m h;omega),Bool.and_true]
   ·have h1:¬((P k:Nat):Int)<((P m:Nat):Int):=by
     rcases aA (Nat.le_of_not_lt h)with h2 | h2
     ·have:=hP m k h2;omega
     ·rw[h2];omega
    rw[show min (k+1) m=min k m by omega,aK h1,eO,Bool.or_false]
theorem Ex {K:List Int}:∀ {k j:Nat},k<=j->zo K k=true->zo K j=true
 | k,0,h,hf=>by obtain rfl:k=0:=by omega
                exact hf
 | k,j+1,h,hf=>by
   rcases aA h with h1 | h1
   ·rw[zo,Ex (by omega) hf,Bool.true_or]
   ·rw[<-h1];exact hf
theorem wW {w w':World}{g:Nat}{l:List (Int × Int × Int)}(h:mE.TabAt w g l)(hf:Fr [] w w'):mE.TabAt w' g l:=fun i hi =>
 ⟨hf.cell (h i hi).1 af,hf.cell (h i hi).2.1 af,hf.cell (h i hi).2.2 af⟩
theorem MI (s:ByteArray)(n m:Nat)(B:List Int)(gB cB:Nat)(w:World)(hs:s.size<=400)(hend:gJ.Ends s n)(hm:m<=n)(hl:B.length<=1000)(hB0:1<=B.length)(hrow:rowAt w gB B.length B)(hB:nth B (B.length - 2)=((gJ.pos s m:Nat):Int))(h3:mE.TabAt w 3 iK.iN)(h4:mE.TabAt w 4 iK.g_) :
 Calls prog 203 #[.string s,.slice (some ⟨gB,0,none⟩) B.length cB] w fun e w'=>e=.returned (.bool (zo (iY s n) m))/\Fr [] w w':=by
 have HE:=hid (MG hend hm);have HRU:=hid (fun k (hk:k<m)=>MH hend hm hk);have HK:=hid (fun k (hk:k<m)=>GU s (n:=n) (show k<n by omega));have e0:=hrow (B.length - 2) (by omega);rw[hB]at e0;have hq:gJ.pos s m<=s.size:=by
  rcases aA hm with h1 | h1
  ·exact bZ (hend.2 m h1)
  ·rw[h1,hend.1];exact ak _
 obtain⟨q,hqq⟩:∃q,q=gJ.pos s m:=⟨_,rfl⟩;rw[<-hqq]at HE HRU e0 hq;obtain⟨nb,hnb⟩:∃nb,nb=B.length:=⟨_,rfl⟩;rw[<-hnb]at hl hB0 e0 ⊢;obtain⟨R,hR⟩:∃R,R=zo (iY s n) m:=⟨_,rfl⟩;rw[<-hR];have HR:=hid hR;have Jq:=hid (fun k (hk:k<=m) h=>Ex (K:=iY s n) (k:=k) (j:=m) hk h);have HT:=hid (fun(w':World) (hf:Fr [] w w')=>(⟨wW h3 hf,wW h4 hf⟩:mE.TabAt w' 3 iK.iN/\mE.TabAt w' 4 iK.g_));obtain⟨st,hst⟩:∃st,st=s.extract 0 q:=⟨_,rfl⟩;rw[<-hst]at HE HRU;have aa2:st.size=q:=by rw[hst];exact uW s q hq
 have ajZ:=hid aa2;have hmq:m<=q:=by rw[hqq];exact gJ.lU s m
 have hwr:IntKind.i64.wrap ((nb:Int) - 2)=(nb:Int) - 2:=by rw[eT];omega
 have hmx:max ((nb:Int) - 2) 0=((nb - 2:Nat):Int):=by omega
 have aa0:((nb - 2:Nat):Int)<(nb:Int):=by omega
 have hq4:q<=400:=by omega
 have HST:=hid hst;clear hR hnb hend hrow hB h3 h4 aa2 hst hqq;go_enter func203,ntmps203;go_wp2_with fail;rw[<-HST.out];go_loopw [] (fun wr=>∃k p:Nat,p<=st.size/\k<=m/\wr.heap[w.heap.size]?=some (.stringIter st p)/\Hid (p=gJ.pos st k)/\Hid (Fr [] w wr)/\Hid (zo (iY s n) k=false)) (fun wr=>st.size - wr.iterPos w.heap.size)
 case atStart=>exact⟨0,0,aH _,aH _,World.iter_heap _ _ _,hid rfl,hid (KT _ _ _),hid rfl⟩
 case round =>
  obtain⟨k,p,hp,hkm,hit,HP,HF,HA⟩:=hrel;by_cases hlt:p<st.size
  ·have Jr:k<m:=by
    rcases aA hkm with h | h
    ·exact h
    ·have h1:=HE.out.1;rw[<-h,<-HP.out]at h1;omega
   have hw2:=gJ.width_le st p hlt;have hw1:=gJ.width_pos st p;have hnx:=fun ty=>Lib.run_next_any_at (P:=prog) wr w.heap.size st p ty hit hlt
   have HQ:=hid (show p+(Utf8.decode st p).2=gJ.pos st (k+1) by rw[HP.out];rfl);have Ut:=hid (show(((Utf8.decode st p).1:Nat):Int)=gJ.rune s k by rw[<-HRU.out k Jr,HP.out];rfl);have HS:=hid (show zo (iY s n) (k+1)=(iK.look iK.gm (gJ.rune s k) == 10) by rw[zo,HA.out,Bool.false_or,HK.out k Jr]);rw[<-Ut.out]at HS;have HM:=hid (Jq.out (k+1) Jr);generalize (Utf8.decode st p).1=r at *;generalize (Utf8.decode st p).2=d at *;have HI:=hid (Lib.iterAt_heap wr w.heap.size st p (p+d) hit);have Ey:=hid (show Fr [] w (wr.iterAt w.heap.size st (p+d))from Fr.of_below (Lib.below_iterAt (HF.out.below (ak _) (fun _ h=>absurd h af)) (ak _) st (p+d)));have HIT:=hid hit;generalize wr.iterAt w.heap.size st (p+d)=wi at *;have HC:=hid (mE.B4 (r:Int) wi (HT.out wi Ey.out).1 (HT.out wi Ey.out).2);generalize iK.look iK.gm (r:Int)=c at *;clear hit;go_wp2_with fail;refine HC.out.mono ?_;rintro e w1 ⟨rfl,hb1⟩;have iy:=hid (Ey.out.trans (Fr.of_below (S:=[]) hb1));have HI1:=hid (show w1.heap[w.heap.size]?=some (.stringIter st (p+d)) by rw[hb1.block _ (h_ HI.out)];exact HI.out);clear hb1 HC HI Ey hnx;by_cases hc:c=10
   ·have xE:=hid (show R=true by rw[HR.out];exact HM.out (by rw[HS.out,hc];rfl))
    subst hc;go_wp2;go_ret;exact⟨nF xE.out.symm,iy.out⟩
   ·have hc':(c == 10)=false:=by simp[hc]
    have HA2:=hid (HS.out.trans hc');go_wp2;go_roundw
    case rel=>exact⟨k+1,p+d,by omega,Jr,HI1.out,HQ,iy,HA2⟩
    case measure=>rw[iterPos_of HI1.out,iterPos_of HIT.out];omega
  ·have hnx:=fun ty=>Lib.run_next_end_at (P:=prog) wr w.heap.size st p ty hit hlt
   have Jr:k=m:=by
    rcases aA hkm with h | h
    ·have h1:=HE.out.2 k h;rw[<-HP.out]at h1;omega
    ·exact h
   have xE:=hid (show R=false by rw[HR.out,<-Jr];exact HA.out);clear Jr;go_wp2;go_ret;exact⟨nF xE.out.symm,HF.out⟩
end Go.Proofs.YtnakejhohdbfdaaGreatDoor
namespace Go.Proofs.YtnakejhohdbfdaaGreatDoor
open Go.RowKit jN Go.Proofs.Tryz
theorem US.far {w:World}{q:UH}{o:Nat}{v:Value}{b j:Nat}{x:Value}(h:w.cell? ⟨b,j,none⟩=some x)(hb:b≠q.U):(w.setCell ⟨q.U,o,none⟩ v).cell? ⟨b,j,none⟩=some x:=by
 rw[cell_far _ _ _ _ _ _ hb.symm];exact h
theorem US.off {w:World}{q:UH}{o:Nat}{v:Value}{j:Nat}{x:Value}(h:w.cell? ⟨q.U,j,none⟩=some x)(hj:j≠o):(w.setCell ⟨q.U,o,none⟩ v).cell? ⟨q.U,j,none⟩=some x:=by
 rw[fD _ _ _ _ (fun e=>hj (by cases e;rfl))];exact h
theorem Js (K:List Int)(s:Sq)(C:List Int)(k:Nat) :
 (¬cl s.I C k=8->iQ K s C k=C) /\
 (cl s.I C k=8->k=0->iQ K s C k=put s.I C k (ah s C k)) /\
 (cl s.I C k=8->0<k->(j6 (cl s.I K (k - 1)) || cl s.I K (k - 1) == 22)=true->iQ K s C k=put s.I C k 13) /\
 (cl s.I C k=8->0<k->(j6 (cl s.I K (k - 1)) || cl s.I K (k - 1) == 22)=false->iQ K s C k=put s.I C k (ah s C k)):=by
 refine⟨fun h=>?_,fun h h0=>?_,fun h h0 h1=>?_,fun h h0 h1=>?_⟩
 ·rw[iQ,au h]
 ·rw[iQ,ay h,au (by omega)]
 ·rw[iQ,ay h,ay ⟨h0,by simpa using h1⟩]
 ·rw[iQ,ay h,au (fun h2=>by have h3:=h2.2;simp at h1;rcases h3 with h3 | h3;rw[h1.1]at h3;cases h3;exact h1.2 h3)]
theorem Ql (q:UH)(C L:List Int)(S Q cQ:Nat)(s:Sq)(lv:Int)(w:World)(hu:US w q C L)(hs:SS w q S Q cQ s lv) :
 Calls prog 140 #[.pointer (some ⟨S,0,none⟩)] w fun e w'=>e=.returned (.tuple #[])/\US w' q (gQ q.K s s.I.length C) L/\Fr [q.U] w w':=by
 have c0:=hs.c0;have sm:=hs.sm;have nS:=hs.ne.1;have nQ:=hs.ne.2;have HU:=hid hu;have HS:=hid hs;obtain⟨m,hm⟩:∃m,m=s.I.length:=⟨_,rfl⟩;have HM:=hid hm;rw[<-hm]at c0 sm ⊢;clear hu hs hm;go_enter func140,ntmps140;go_wp2;go_loopw [9] (fun a wr=>∃(k:Nat),a=.int .i64 k/\k<=m/\Hid (US wr q (gQ q.K s k C) L)/\Hid (Fr [q.U] w wr)) (fun a _=>m - (intOf a).toNat)
 case atStart=>exact⟨0,rfl,aH _,HU,hid (Fr.refl _ _)⟩
 case round =>
  obtain⟨k,rfl,hk,HP,HF⟩:=hrel;by_cases hlt:k<m
  ·obtain⟨hi,p1,p2,p3,p4⟩:=Fo HP.out HS.out HF.out (show k<s.I.length by rw[<-HM.out];exact hlt)
   have WE:=hid (HS.out.KM HF.out);have r0:=WE.out.c0;rw[<-HM.out]at r0;have qp:=hid (fun z=>HP.out.oX hi z);have HST:=hid (show gQ q.K s (k+1) C=iQ q.K s (gQ q.K s k C) k from rfl);have mo:=hid (Js q.K s (gQ q.K s k C) k);have IA:=hid (x_ q _ L S Q cQ s lv k wr HP.out WE.out (by rw[<-HM.out];exact hk));rw[<-HST.out]at mo;have hpr:k=0\/∃j,k=j+1/\fX s.I j<q.n/\wr.cell? ⟨Q,j,none⟩=some (.pointer (some ⟨q.U,fX s.I j * 4,none⟩))/\wr.cell? ⟨q.U,fX s.I j * 4+1,none⟩=some (.int .i64 (nth q.K (fX s.I j))):=by
    rcases aS k with h | h
    ·exact .inl h
    ·obtain⟨hi',p1',_,_,p4'⟩:=Fo HP.out HS.out HF.out (show k - 1<s.I.length by rw[<-HM.out];omega)
     exact .inr ⟨k - 1,by omega,hi',p1',p4'⟩
   generalize rN:gQ q.K s (k+1) C=N2 at *;have lQ:=hid rN;clear rN HST p4;generalize gQ q.K s k C=N at *;dsimp only[cl,put]at mo p2 p3 qp;generalize XN:ah s N k=av at *;clear XN;by_cases hy:nth N (fX s.I k)=8
   ·rcases hpr with h0 | ⟨j,hj,hi',p1',p4'⟩
    ·have HN:=hid (mo.out.2.1 hy h0)
     rw[hy]at p2;generalize fX s.I k=i at *;have h0d:decide ((0:Int)<(k:Int))=false:=by simp;omega
     have h0e:decide (0<k)=false:=by simp;omega
     clear hy mo h0;go_wp2_with (first | (go_at_call 155;refine IA.out.mono ?_;rintro e w' ⟨rfl,rfl⟩));go_roundw
     case rel=>exact⟨k+1,by go_num,by omega,hid (by rw[lQ.out,HN.out];exact qp.out av),hid (HF.out.set (aj.2 rfl) _)⟩
     case measure=>simp[intOf];omega
    ·have HN3:=hid (mo.out.2.2.1 hy (by omega))
     have GX:=hid (mo.out.2.2.2 hy (by omega));rw[show k - 1=j by omega]at HN3 GX;rw[hy]at p2;have q1:=US.far (q:=q) (o:=fX s.I k * 4+2) (v:=.int .i64 av) r0 nS;have q2:=US.far (q:=q) (o:=fX s.I k * 4+2) (v:=.int .i64 av) p1' nQ;have q3:=US.off (q:=q) (o:=fX s.I k * 4+2) (v:=.int .i64 av) p4' (by omega);have qV:=hid (fun z=>(qp.out av).oX hi z);have q5:=(qp.out av).soft (fX s.I k * 4+2) (by omega);have q6:=(qp.out av).c _ hi;rw[sJ _ _ _ _ (by rw[HP.out.lC];exact hi),ay rfl]at q6;generalize nth q.K (fX s.I j)=kk at *;generalize fX s.I j=i' at *;generalize fX s.I k=i at *;have sX:(0:Int)<(k:Int):=by omega
     have hkj:(k:Int) - 1=(j:Int):=by omega
     have hjm:(j:Int)<(m:Int):=by omega
     have Uu:=hid (GH kk);clear hy mo hj;cases hb:(j6 kk || kk == 22)
     ·have HN:=hid (GX.out hb)
      rw[hb]at Uu;clear HN3 GX hb;go_wp2_with (first | (go_at_call 155;refine IA.out.mono ?_;rintro e w' ⟨rfl,rfl⟩) | (go_at_call 188;refine(Uu.out _).mono ?_;rintro e w' ⟨rfl,rfl⟩));go_roundw
      case rel=>exact⟨k+1,by go_num,by omega,hid (by rw[lQ.out,HN.out];exact qp.out av),hid (HF.out.set (aj.2 rfl) _)⟩
      case measure=>simp[intOf];omega
     ·have HN:=hid (HN3.out hb)
      rw[hb]at Uu;clear HN3 GX hb;go_wp2_with (first | (go_at_call 155;refine IA.out.mono ?_;rintro e w' ⟨rfl,rfl⟩) | (go_at_call 188;refine(Uu.out _).mono ?_;rintro e w' ⟨rfl,rfl⟩));go_roundw
      case rel=>exact⟨k+1,by go_num,by omega,hid (by rw[lQ.out,HN.out];have h:=qV.out 13;rw[sK]at h;exact h),hid ((HF.out.set (aj.2 rfl) _).set (aj.2 rfl) _)⟩
      case measure=>simp[intOf];omega
   ·have HN:=hid (mo.out.1 hy)
    generalize nth N (fX s.I k)=y at *;generalize fX s.I k=i at *;clear hpr;go_wp2;go_roundw
    case rel=>exact⟨k+1,by go_num,by omega,hid (by rw[lQ.out,HN.out];exact HP.out),HF⟩
    case measure=>simp[intOf];omega
  ·have hk2:k=m:=by omega
   have tH:=hid (show US wr q (gQ q.K s m C) L by rw[<-hk2];exact HP.out);clear hk2;go_wp2;go_end0;exact⟨rfl,tH.out,HF.out⟩
theorem Jt (s:Sq)(C:List Int)(k:Nat) :
 (¬ah s C k=tE s C (k+1)->jX s C k=C) /\
 (ah s C k=tE s C (k+1)->ah s C k=3->(cl s.I C k=4\/cl s.I C k=7)->jX s C k=put s.I C k 3) /\
 (ah s C k=tE s C (k+1)->ah s C k=6->cl s.I C k=7->jX s C k=put s.I C k 6) /\
 (¬(ah s C k=3/\(cl s.I C k=4\/cl s.I C k=7))->¬(ah s C k=6/\cl s.I C k=7)->jX s C k=C):=by
 refine⟨fun h=>?_,fun h h1 h2=>?_,fun h h1 h2=>?_,fun h h1=>?_⟩
 ·rw[jX,au (fun h2=>h h2.1)]
 ·rw[jX,ay ⟨h,.inl ⟨h1,h2⟩⟩,h1]
 ·rw[jX,ay ⟨h,.inr ⟨h1,h2⟩⟩,h1]
 ·rw[jX,au (fun h2=>by rcases h2.2 with h3 | h3;exact h h3;exact h1 h3)]
theorem Qm (q:UH)(C L:List Int)(S Q cQ:Nat)(s:Sq)(lv:Int)(w:World)(hu:US w q C L)(hs:SS w q S Q cQ s lv) :
 Calls prog 143 #[.pointer (some ⟨S,0,none⟩)] w fun e w'=>e=.returned (.tuple #[])/\US w' q (ku s s.I.length C) L/\Fr [q.U] w w':=by
 have c0:=hs.c0;have sm:=hs.sm;have HU:=hid hu;have HS:=hid hs;obtain⟨m,hm⟩:∃m,m=s.I.length:=⟨_,rfl⟩;have HM:=hid hm;rw[<-hm]at c0 sm ⊢;clear hu hs hm;go_enter func143,ntmps143;go_wp2;go_loopw [10] (fun a wr=>∃(k:Nat),a=.int .i64 k/\k<=m/\Hid (US wr q (ku s k C) L)/\Hid (Fr [q.U] w wr)) (fun a _=>m - (intOf a).toNat)
 case atStart=>exact⟨0,rfl,aH _,HU,hid (Fr.refl _ _)⟩
 case round =>
  obtain⟨k,rfl,hk,HP,HF⟩:=hrel;by_cases hlt:k<m
  ·obtain⟨hi,p1,p2,p3,p4⟩:=Fo HP.out HS.out HF.out (show k<s.I.length by rw[<-HM.out];exact hlt)
   have WE:=hid (HS.out.KM HF.out);have qp:=hid (fun z=>HP.out.oX hi z);have HST:=hid (show ku s (k+1) C=jX s (ku s k C) k from rfl);have mo:=hid (Jt s (ku s k C) k);have IA:=hid (x_ q _ L S Q cQ s lv k wr HP.out WE.out (by rw[<-HM.out];exact hk));have HAT:=hid (Ch q _ L S Q cQ s lv (k+1) wr HP.out WE.out (by rw[<-HM.out];omega));rw[dL]at HAT;rw[<-HST.out]at mo;generalize rN:ku s (k+1) C=N2 at *;have lQ:=hid rN;clear rN HST p4;generalize ku s k C=N at *;dsimp only[cl,put]at *;generalize ah s N k=av at *;generalize tE s N (k+1)=bv at *;generalize fX s.I k=i at *;generalize nth N i=y at *;have MJ:Hid (Calls prog 156 #[.pointer (some ⟨S,0,none⟩),.int .i64 ((k:Int)+1)] wr fun e w'=>e=.returned (.int .i64 bv)/\w'=wr):=HAT;clear HAT;by_cases hab:av=bv
   ·have hN:=hid (mo.out.2.2.2)
    by_cases h3:av=3
    ·by_cases hy:y=4\/y=7
     ·have HN:=hid (mo.out.2.1 hab h3 hy)
      subst h3;subst hab;clear hN mo
      rcases hy with rfl | rfl
      all_goals (
          go_wp2_with (first | (go_at_call 155;refine IA.out.mono ?_;rintro e w' ⟨rfl,rfl⟩) | (go_at_call 156;refine MJ.out.mono ?_;rintro e w' ⟨rfl,rfl⟩))
          go_roundw
          case rel=>exact⟨k+1,by go_num,by omega,hid (by rw[lQ.out,HN.out];exact qp.out 3),hid (HF.out.set (aj.2 rfl) _)⟩
          case measure=>simp[intOf];omega)
     ·have HN:=hid (hN.out (fun h=>hy h.2) (by omega))
      have y4:¬y=4:=fun h=>hy (.inl h)
      have y7:¬y=7:=fun h=>hy (.inr h)
      have y4b:(y == 4)=false:=by simp[y4]
      have y7b:(y == 7)=false:=by simp[y7]
      subst h3;subst hab;clear hN mo hy;go_wp2_with (first | (go_at_call 155;refine IA.out.mono ?_;rintro e w' ⟨rfl,rfl⟩) | (go_at_call 156;refine MJ.out.mono ?_;rintro e w' ⟨rfl,rfl⟩));go_roundw
      case rel=>exact⟨k+1,by go_num,by omega,hid (by rw[lQ.out,HN.out];exact HP.out),HF⟩
      case measure=>simp[intOf];omega
    ·by_cases h6:av=6
     ·by_cases hy:y=7
      ·have HN:=hid (mo.out.2.2.1 hab h6 hy)
       subst h6;subst hab;subst hy;clear hN mo h3;go_wp2_with (first | (go_at_call 155;refine IA.out.mono ?_;rintro e w' ⟨rfl,rfl⟩) | (go_at_call 156;refine MJ.out.mono ?_;rintro e w' ⟨rfl,rfl⟩));go_roundw
       case rel=>exact⟨k+1,by go_num,by omega,hid (by rw[lQ.out,HN.out];exact qp.out 6),hid (HF.out.set (aj.2 rfl) _)⟩
       case measure=>simp[intOf];omega
      ·have HN:=hid (hN.out (fun h=>h3 h.1) (fun h=>hy h.2))
       have y7b:(y == 7)=false:=by simp[hy]
       subst h6;subst hab;clear hN mo h3;go_wp2_with (first | (go_at_call 155;refine IA.out.mono ?_;rintro e w' ⟨rfl,rfl⟩) | (go_at_call 156;refine MJ.out.mono ?_;rintro e w' ⟨rfl,rfl⟩));go_roundw
       case rel=>exact⟨k+1,by go_num,by omega,hid (by rw[lQ.out,HN.out];exact HP.out),HF⟩
       case measure=>simp[intOf];omega
     ·have HN:=hid (hN.out (fun h=>h3 h.1) (fun h=>h6 h.1))
      subst hab;clear hN mo;go_wp2_with (first | (go_at_call 155;refine IA.out.mono ?_;rintro e w' ⟨rfl,rfl⟩) | (go_at_call 156;refine MJ.out.mono ?_;rintro e w' ⟨rfl,rfl⟩));go_roundw
      case rel=>exact⟨k+1,by go_num,by omega,hid (by rw[lQ.out,HN.out];exact HP.out),HF⟩
      case measure=>simp[intOf];omega
   ·have HN:=hid (mo.out.1 hab)
    clear mo;go_wp2_with (first | (go_at_call 155;refine IA.out.mono ?_;rintro e w' ⟨rfl,rfl⟩) | (go_at_call 156;refine MJ.out.mono ?_;rintro e w' ⟨rfl,rfl⟩));go_roundw
    case rel=>exact⟨k+1,by go_num,by omega,hid (by rw[lQ.out,HN.out];exact HP.out),HF⟩
    case measure=>simp[intOf];omega
  ·have hk2:k=m:=by omega
   have tH:=hid (show US wr q (ku s m C) L by rw[<-hk2];exact HP.out);clear hk2;go_wp2;go_end0;exact⟨rfl,tH.out,HF.out⟩
theorem uX (K:List Int)(I:List Nat)(v:Int)(f j:Nat)(C:List Int) :
 (j<I.length->cl I K j=8->lW K I v (f+1) j C=lW K I v f (j+1) (put I C j v))/\(j<I.length->¬cl I K j=8->lW K I v f j C=C)/\(I.length<=j->lW K I v f j C=C):=by
 refine⟨fun h h1=>?_,fun h h1=>?_,fun h=>?_⟩
 ·rw[lW,ay ⟨h,h1⟩]
 ·cases f with
  | zero=>rfl
  | succ f=>rw[lW,au (fun h2=>h1 h2.2)]
 ·cases f with
  | zero=>rfl
  | succ f=>rw[lW,au (fun h2=>by omega)]
theorem GY (q:UH)(C L:List Int)(S Q cQ:Nat)(s:Sq)(lv:Int)(k:Nat)(v:Int)(w:World)(hu:US w q C L)(hs:SS w q S Q cQ s lv)(hk:k<s.I.length) :
 Calls prog 197 #[.pointer (some ⟨S,0,none⟩),.int .i64 k,.int .i64 v] w fun e w'=>e=.returned (.tuple #[])/\US w' q (become q.K s.I k v C) L/\Fr [q.U] w w':=by
 have c0:=hs.c0;have sm:=hs.sm;have cp:=hs.cp;have nS:=hs.ne.1;have nQ:=hs.ne.2;obtain⟨hi0,p1,p2,p3,p4⟩:=Fo hu hs (Fr.refl _ _) hk;have HU0:=hid (hu.oX hi0 v);have Ep:=hid (gH w q.U (fX s.I k * 4+2) (.int .i64 v));have HS:=hid hs;have c0':=US.far (q:=q) (o:=fX s.I k * 4+2) (v:=.int .i64 v) c0 nS;obtain⟨Z,hZ⟩:∃Z,Z=become q.K s.I k v C:=⟨_,rfl⟩;have HZ:=hid (show Z=lW q.K s.I v s.I.length (k+1) (put s.I C k v)from hZ);rw[<-hZ];obtain⟨m,hm⟩:∃m,m=s.I.length:=⟨_,rfl⟩;have HM:=hid hm;rw[<-hm]at c0 c0' sm hk cp;dsimp only[put]at HZ;generalize fX s.I k=i0 at *;obtain⟨d,hd⟩:∃d,m - (k+1)=d:=⟨_,rfl⟩;have HD:=hid (show m=k+1+d by omega);have hdm:d<=1000000:=by omega
 have hI1:(k:Int)+1<=(m:Int):=by omega
 have hI2:(k:Int)+1<=(cQ:Int):=by omega
 have hm0:0<m:=by omega
 clear hu hs hm hZ;by_cases hca:cQ=k+1
 ·have HZ2:=hid (show Z=C.set i0 v by rw[HZ.out];exact(uX q.K s.I v _ _ _).2.2 (by rw[<-HM.out];omega))
  have HDZ:=hid (show d=0 by have:=HD.out;omega);go_enter func197,ntmps197;go_wp2;go_loopw [26] (fun x wr=>x=.int .i64 0/\wr=w.setCell ⟨q.U,i0 * 4+2,none⟩ (.int .i64 v)) (fun _ _=>0)
  case atStart=>exact⟨rfl,rfl⟩
  case round =>
   obtain⟨rfl,rfl⟩:=hrel;have hdz:=HDZ.out;subst hdz;go_wp2;go_end0;exact⟨rfl,by rw[HZ2.out];exact HU0.out,Ep.out⟩
 ·go_enter func197,ntmps197
  go_wp2;clear hca hd c0 c0' p1 p2 p3 p4;go_loopw [26] (fun x wr=>∃(t f:Nat) (N:List Int),x=.int .i64 t/\t<=d/\Hid (Z=lW q.K s.I v f (k+1+t) N)/\Hid (d<=t+f)/\Hid (US wr q N L)/\Hid (Fr [q.U] w wr)) (fun x _=>d - (intOf x).toNat)
  case atStart=>exact⟨0,s.I.length,_,rfl,aH _,HZ,hid (by rw[<-HM.out];have:=HD.out;omega),HU0,Ep⟩
  case round =>
   obtain⟨t,f,N,rfl,ht,HZT,HTF,HP,HF⟩:=hrel;by_cases hlt:t<d
   ·obtain⟨f',rfl⟩:∃f',f=f'+1:=⟨f - 1,by have:=HTF.out;omega⟩
    obtain⟨hi,e1,e2,e3,e4⟩:=Fo HP.out HS.out HF.out (show k+1+t<s.I.length by rw[<-HM.out];have:=HD.out;omega);have qp:=hid (fun z=>HP.out.oX hi z);have Tk:=hid (uX q.K s.I v f' (k+1+t) N);have Uv:=hid (uX q.K s.I v (f'+1) (k+1+t) N);have hkl:k+1+t<s.I.length:=by rw[<-HM.out];have:=HD.out;omega
    have Ez:=hid hkl;have Il:=hid hlt;dsimp only[cl,put]at Tk Uv;generalize fX s.I (k+1+t)=i at *;generalize nth q.K i=y at *;generalize nth N i=z at *;by_cases hy:y=8
    ·have HZN:=hid (show Z=lW q.K s.I v f' (k+1+(t+1)) (N.set i v) by rw[HZT.out];exact Tk.out.1 Ez.out hy)
     subst hy;clear Tk Uv hkl;go_wp2;go_roundw
     case rel=>exact⟨t+1,f',_,by go_num,by have:=Il.out;omega,HZN,hid (by have:=HTF.out;omega),hid (qp.out v),hid (HF.out.set (aj.2 rfl) _)⟩
     case measure=>have:=Il.out;simp[intOf];omega
    ·have HZN:=hid (show Z=N by rw[HZT.out];exact Uv.out.2.1 Ez.out hy)
     clear Tk Uv hkl;go_wp2
     (try simp only[Exit.inBlock,Exit.then])
     refine eU (results_none rfl _ _ _) rfl ?_;exact⟨rfl,by rw[HZN.out];exact HP.out,HF.out⟩
   ·have HZN:=hid (show Z=N by rw[HZT.out];exact(uX q.K s.I v f (k+1+t) N).2.2 (by rw[<-HM.out];have:=HD.out;omega))
    have hti:¬(t:Int)<(d:Int):=by omega
    go_wp2;go_end0;exact⟨rfl,by rw[HZN.out];exact HP.out,HF.out⟩
theorem Qn (q:UH)(C L:List Int)(S Q cQ:Nat)(s:Sq)(lv:Int)(a b:Nat)(v:Int)(w:World)(hu:US w q C L)(hs:SS w q S Q cQ s lv)(ha:a<s.I.length)(hb:b<s.I.length) :
 Calls prog 151 #[.pointer (some ⟨S,0,none⟩),.int .i64 a,.int .i64 b,.int .i64 v] w fun e w'=>e=.returned (.tuple #[])/\US w' q (become q.K s.I b v (become q.K s.I a v C)) L/\Fr [q.U] w w':=by
 have H1:=hid (GY q C L S Q cQ s lv a v w hu hs ha);have H2:=hid (fun w' hu' hs'=>GY q (become q.K s.I a v C) L S Q cQ s lv b v w' hu' hs' hb);have HS:=hid hs;clear hu hs;go_enter func151,ntmps151;go_wp2_with fail;refine H1.out.mono ?_;rintro e w1 ⟨rfl,hu1,hf1⟩;have H3:=hid (H2.out w1 hu1 (HS.out.KM hf1));have iy:=hid hf1;clear hu1 hf1 H1 H2;go_wp2_with fail;refine H3.out.mono ?_;rintro e w2 ⟨rfl,hu2,hf2⟩;have AF:=hid hu2;have f_:=hid (iy.out.trans hf2);clear hu2 hf2;go_wp2;go_end0;exact⟨rfl,AF.out,f_.out⟩
theorem FB (l:List Int)(i:Nat):l.set i (nth l i)=l:=by
 refine xN (by simp) (fun j hj=>?_);rw[pW];split
 ·next h=>rw[h.1]
 ·rfl
theorem Ju (lv c:Int):(lv % 2=0->(c=3\/c=6)->lift lv c=2)/\(¬(lv % 2=0/\(c=3\/c=6))->¬c=way lv->lift lv c=1)/\(¬(lv % 2=0/\(c=3\/c=6))->c=way lv->lift lv c=0):=by
 refine⟨fun h h1=>?_,fun h h1=>?_,fun h h1=>?_⟩
 ·rw[lift,ay ⟨h,h1⟩]
 ·rw[lift,au h,ay h1]
 ·rw[lift,au h,au (by simpa using h1)]
theorem Qo (q:UH)(C L:List Int)(S Q cQ:Nat)(s:Sq)(lv:Int)(w:World)(hu:US w q C L)(hs:SS w q S Q cQ s lv)(hl0:0<=lv)(hinj:inj s.I)(hL:∀i,0<=nth L i/\nth L i<=1000) :
 Calls prog 79 #[.pointer (some ⟨S,0,none⟩)] w fun e w'=>e=.returned (.tuple #[])/\US w' q C (lA s.I lv C s.I.length L)/\Fr [q.U] w w':=by
 have c0:=hs.c0;have sm:=hs.sm;have HU:=hid hu;have HS:=hid hs;have HL:=hid hL;have Dy:=hid (fun k (hk:k<=s.I.length)=>Fc hinj (L:=L) (fun j hj=>by rw[hu.lL];exact hs.lt j hj) lv C k hk);obtain⟨m,hm⟩:∃m,m=s.I.length:=⟨_,rfl⟩;have HM:=hid hm;rw[<-hm]at c0 sm ⊢;clear hu hs hm hL hinj;go_enter func79,ntmps79;go_wp2;go_loopw [10] (fun a wr=>∃(k:Nat),a=.int .i64 k/\k<=m/\Hid (US wr q C (lA s.I lv C k L))/\Hid (Fr [q.U] w wr)) (fun a _=>m - (intOf a).toNat)
 case atStart=>exact⟨0,rfl,aH _,HU,hid (Fr.refl _ _)⟩
 case round =>
  obtain⟨k,rfl,hk,HP,HF⟩:=hrel;by_cases hlt:k<m
  ·obtain⟨hi,p1,p2,p3,p4⟩:=Fo HP.out HS.out HF.out (show k<s.I.length by rw[<-HM.out];exact hlt)
   have WE:=hid (HS.out.KM HF.out);have r1:=WE.out.c1;have p5:=HP.out.l _ hi;have p6:=HP.out.soft (fX s.I k * 4+3) (by omega);have IB:=hid (fun z=>HP.out.DH hi z);have HST:=hid (show lA s.I lv C (k+1) L=put s.I (lA s.I lv C k L) k (cl s.I (lA s.I lv C k L) k+lift lv (cl s.I C k))from rfl);have hlow:=(Dy.out k (by rw[<-HM.out];exact hk)).2 k (ak _) (by rw[<-HM.out];exact hlt);have hbd:=HL.out (fX s.I k);dsimp only[cl,put]at HST hlow;rw[<-hlow]at hbd;have EA:=hid (fun(w':World) (hf:Fr [q.U] wr w')=>Ci q S Q cQ s lv w' (WE.out.KM hf) hl0);generalize rN:lA s.I lv C (k+1) L=N2 at *;have lQ:=hid rN;clear rN p4 hlow;generalize lA s.I lv C k L=N at *;generalize fX s.I k=i at *;have Uw:=hid (Ju lv (nth C i));generalize nth C i=y at *;have aa4:=hid (show N.set i (nth N i)=N from FB N i);generalize nth N i=z at *;generalize lift lv y=lf at *;have HG:=hid (fun(x:Int) (h:lf=x)=>(show N2=N.set i (z+x) by rw[HST.out,h]));have hr:lv % 2=0\/lv % 2=1:=by omega
   have HWY:=hid (show way lv=if lv % 2=1 then 1 else 0 from rfl);clear HST;by_cases hn:y=3\/y=6
   ·rcases hr with h0 | h0
    ·have HN:=hid (HG.out 2 (Uw.out.1 h0 hn))
     rcases hn with rfl | rfl
     all_goals (
      go_wp2
      go_roundw
      case rel=>exact⟨k+1,by go_num,by omega,hid (by rw[lQ.out,HN.out];exact IB.out _),hid (HF.out.set (aj.2 rfl) _)⟩
      case measure=>simp[intOf];omega)
    ·have HWV:=hid (show way lv=1 by rw[HWY.out,ay h0])
     have HN:=hid (HG.out 1 (Uw.out.2.1 (by omega) (by rw[HWV.out];omega)));rw[HWV.out]at EA
     rcases hn with rfl | rfl
     all_goals (
      go_wp2
      go_quiet (first | (go_at_call 150;exact Calls.quiet_of (EA.out _ ((Fr.refl [q.U] wr).drewN _))))
      go_wp2
      go_roundw
      case rel=>exact⟨k+1,by go_num,by omega,hid (by rw[lQ.out,HN.out];exact(IB.out _).fr (T:=[]) (iD _ _ _ rfl rfl rfl rfl) af),hid ((HF.out.set (aj.2 rfl) _).trans (iD _ _ _ rfl rfl rfl rfl))⟩
      case measure=>simp[intOf];omega)
   ·have y3:¬y=3:=fun h=>hn (.inl h)
    have y6:¬y=6:=fun h=>hn (.inr h)
    have y3b:(y == 3)=false:=by simp[y3]
    have y6b:(y == 6)=false:=by simp[y6]
    generalize way lv=wl at *;by_cases hw:y=wl
    ·have HN:=hid (HG.out 0 (Uw.out.2.2 (fun h=>hn h.2) hw))
     subst hw;clear hn
     rcases hr with h0 | h0
     all_goals (
      go_wp2
      go_quiet (first | (go_at_call 150;exact Calls.quiet_of (EA.out _ ((Fr.refl [q.U] wr).drewN _))))
      go_wp2
      go_roundw
      case rel=>exact⟨k+1,by go_num,by omega,hid (by rw[lQ.out,HN.out,Int.add_zero,aa4.out];exact HP.out.fr (T:=[]) (iD _ _ _ rfl rfl rfl rfl) af),hid (HF.out.trans (iD _ _ _ rfl rfl rfl rfl))⟩
      case measure=>simp[intOf];omega)
    ·have HN:=hid (HG.out 1 (Uw.out.2.1 (fun h=>hn h.2) hw))
     have hwb:(y == wl)=false:=by simp[hw]
     clear hn
     rcases hr with h0 | h0
     all_goals (
      go_wp2
      go_quiet (first | (go_at_call 150;exact Calls.quiet_of (EA.out _ ((Fr.refl [q.U] wr).drewN _))))
      go_wp2
      go_roundw
      case rel=>exact⟨k+1,by go_num,by omega,hid (by rw[lQ.out,HN.out];exact(IB.out _).fr (T:=[]) (iD _ _ _ rfl rfl rfl rfl) af),hid ((HF.out.set (aj.2 rfl) _).trans (iD _ _ _ rfl rfl rfl rfl))⟩
      case measure=>simp[intOf];omega)
  ·have hk2:k=m:=by omega
   have tH:=hid (show US wr q C (lA s.I lv C m L) by rw[<-hk2];exact HP.out);clear hk2;go_wp2;go_end0;exact⟨rfl,tH.out,HF.out⟩
theorem Ux {K:List Int}{s:Sq}{C:List Int}(hb:s.iq=0\/s.iq=1)(hw:within s.I C)(h:Among S0 s.I C s.I.length) :
 (iw s.I true 0 0 s.I.length (s.iq,iL s.I s.I.length (scan s.I qm (kA s) (ku s s.I.length (mP s.I s.I.length (iw s.I true 2 6 s.I.length (s.iq,gQ K s s.I.length C)).2))))).2=weak K s C:=by
 have h1:=(E4 (K:=K) hb hw h s.I.length (ak _)).2;have l1:=pP K s C s.I.length;have h2:=Bt (P:=S1) (al:=true) (letter:=2) (v:=6) ⟨by unfold S0;omega,by omega⟩ (q:=(s.iq,gQ K s s.I.length C)) h1 s.I.length;have l2:=q9 s.I true 2 6 (s.iq,gQ K s s.I.length C) s.I.length;have h3:=(Xj (hw.of (by rw[l2];exact l1)) h2 s.I.length (ak _)).2;have l3:=yM s.I (iw s.I true 2 6 s.I.length (s.iq,gQ K s s.I.length C)).2 s.I.length;have h4:=OE h3 s.I.length;have l4:=xI s (mP s.I s.I.length (iw s.I true 2 6 s.I.length (s.iq,gQ K s s.I.length C)).2) s.I.length;have h5:=aab h4;have l5:=IP s (ku s s.I.length (mP s.I s.I.length (iw s.I true 2 6 s.I.length (s.iq,gQ K s s.I.length C)).2));have h6:=(E5 (hw.of (by rw[l5,l4,l3,l2];exact l1)) h5 s.I.length (ak _)).2;unfold weak;rw[Kq (by decide) (h6.mono (fun c hc=>hc.1.2)) s.I.length (ak _)]
theorem Bn (q:UH)(C L:List Int)(S Q cQ:Nat)(s:Sq)(lv:Int)(w:World)(hu:US w q C L)(hs:SS w q S Q cQ s lv)(hb:s.iq=0\/s.iq=1)(h0:Among S0 s.I C s.I.length)
 (term:∀(C:List Int) (w:World),US w q C L->SS w q S Q cQ s lv->Calls prog 144 #[.pointer (some ⟨S,0,none⟩)] w fun e w'=>e=.returned (.tuple #[])/\US w' q (scan s.I qm (kA s) C) L/\Fr [q.U] w w') :
 Calls prog 76 #[.pointer (some ⟨S,0,none⟩)] w fun e w'=>e=.returned (.tuple #[])/\US w' q (weak q.K s C) L/\Fr [q.U] w w':=by
 have HS:=hid hs;have HW:=hid (Ux (K:=q.K) hb (fun k hk=>by rw[hu.lC];exact hs.lt k hk) h0);have HT:=hid term;have H1:=hid (Ql q C L S Q cQ s lv w hu hs);generalize weak q.K s C=Z at *;clear hu hs hb h0 term;go_enter func76,ntmps76;go_wp2_with fail;refine H1.out.mono ?_;rintro e w1 ⟨rfl,hu1,hf1⟩;have H2:=hid (GI q _ L S Q cQ s lv 2 6 w1 hu1 (HS.out.KM hf1));have iy:=hid hf1;clear hu1 hf1 H1;go_wp2_with fail;refine H2.out.mono ?_;rintro e w2 ⟨rfl,hu2,hf2⟩;have f_:=hid (iy.out.trans hf2);have H3:=hid (PF q _ L S Q cQ s lv w2 hu2 (HS.out.KM f_.out));clear hu2 hf2 H2;go_wp2_with fail;refine H3.out.mono ?_;rintro e w3 ⟨rfl,hu3,hf3⟩;have iO:=hid (f_.out.trans hf3);have H4:=hid (Qm q _ L S Q cQ s lv w3 hu3 (HS.out.KM iO.out));clear hu3 hf3 H3;go_wp2_with fail;refine H4.out.mono ?_;rintro e w4 ⟨rfl,hu4,jl⟩;have gP:=hid (iO.out.trans jl);have H5:=hid (HT.out _ w4 hu4 (HS.out.KM gP.out));clear hu4 jl H4;go_wp2_with fail;refine H5.out.mono ?_;rintro e w5 ⟨rfl,WG,jC⟩;have jP:=hid (gP.out.trans jC);have H6:=hid (PG q _ L S Q cQ s lv w5 WG (HS.out.KM jP.out));clear WG jC H5;go_wp2_with fail;refine H6.out.mono ?_;rintro e w6 ⟨rfl,hu6,jo⟩;have s_:=hid (jP.out.trans jo);have H7:=hid (GI q _ L S Q cQ s lv 0 0 w6 hu6 (HS.out.KM s_.out));rw[HW.out]at H7;clear hu6 jo H6;go_wp2_with fail;refine H7.out.mono ?_;rintro e w7 ⟨rfl,hu7,Jv⟩;have HU7:=hid hu7;have m7:=hid (s_.out.trans Jv);clear hu7 Jv;go_wp2;go_end0;exact⟨rfl,HU7.out,m7.out⟩
end Go.Proofs.YtnakejhohdbfdaaGreatDoor

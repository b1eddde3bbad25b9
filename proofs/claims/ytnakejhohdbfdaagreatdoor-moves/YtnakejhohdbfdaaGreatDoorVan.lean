import Derived.Test.YtnakejhohdbfdaaGreatDoorVaj
import Derived.Test.YtnakejhohdbfdaaGreatDoorVam
import Derived.WalkLawsBesides
set_option maxHeartbeats 4000000
set_option maxRecDepth 10000
namespace Go.Proofs.YtnakejhohdbfdaaGreatDoor
open Go.RowKit jN Lay uS Go.Proofs.Tryz
def mA (w:World)(v:Value)(l:List Int):Prop:=∃a c,v=.slice a l.length c/\(l.length=0\/∃g o,a=some ⟨g,o,none⟩/\Jf w g o l.length l)
theorem mA.fr {w w':World}{v:Value}{l:List Int}(h:mA w v l)(hf:Fr [] w w'):mA w' v l:=by
 obtain⟨a,c,h1,h2⟩:=h;refine⟨a,c,h1,h2.imp id ?_⟩;rintro ⟨g,o,h3,h4⟩;exact⟨g,o,h3,h4.fr hf af⟩
def iY (s:ByteArray)(n:Nat):List Int:=(List.range n).map (fun i=>iK.look iK.gm (gJ.rune s i))
theorem GU (s:ByteArray){n i:Nat}(h:i<n):nth (iY s n) i=iK.look iK.gm (gJ.rune s i):=by simp[nth,iY,h]
theorem Ui (s:ByteArray)(b:Int)(vW vB:Value)(w:World)(hs:400<s.size) :
 Calls prog 53 #[.agg #[.string s,.int .i64 b,vW,vB]] w fun e w'=>e=.returned (.int .i64 1)/\Fr [] w w':=by
 have h1:(400:Int)<(s.size:Int):=by omega
 go_enter func53,ntmps53;go_wp2;go_ret;exact⟨rfl,(Fr.refl [] w).alloc _⟩
theorem Uj (s:ByteArray)(b:Int)(vW vB:Value)(w:World)(hs:s.size<=400)(hb:b<0\/2<b) :
 Calls prog 53 #[.agg #[.string s,.int .i64 b,vW,vB]] w fun e w'=>e=.returned (.int .i64 2)/\Fr [] w w':=by
 have h1:¬(400:Int)<(s.size:Int):=by omega
 by_cases h2:b<0
 ·go_enter func53,ntmps53
  go_wp2;go_ret;exact⟨rfl,(Fr.refl [] w).alloc _⟩
 ·have h3:2<b:=by omega
  have h2':decide (b<0)=false:=aK h2;go_enter func53,ntmps53;go_wp2;go_ret;exact⟨rfl,(Fr.refl [] w).alloc _⟩
theorem Uk (s:ByteArray)(b:Int)(vW vB:Value)(W Br:List Int)(n:Nat)(w:World)(hs:s.size<=400)(hb:0<=b/\b<=2)(hT:Lib.Utf8Tabs 1 2 w)(hend:gJ.Ends s n)(hW:mA w vW W)(tJ:W.length<=5000)(hB:mA w vB Br)(hBl:Br.length<=5000) :
 Calls prog 53 #[.agg #[.string s,.int .i64 b,vW,vB]] w fun e w'=>e=.returned (.int .i64 (tu s n (iY s n) b W Br))/\Fr [] w w':=by
 obtain⟨R,hR⟩:∃R,R=tu s n (iY s n) b W Br:=⟨_,rfl⟩;rw[<-hR]
 have HR:=hid (show R=if W.length≠n\/Lay.Et W n=false then 3 else if Lay.jH (bnd s n) s.size Br Br.length=false then 4 else if Lay.early (iY s n) (gJ.pos s) (nth (bnd s n) ((bnd s n).length - 2)) n=true then 5 else 0 by
  rw[hR,tu,au (by omega),au (by omega)])
 have DC:n<=400:=by have:=gJ.lU s n;have:=hend.1;omega
 obtain⟨aW,cW,rfl,hW2⟩:=hW;obtain⟨aB,cB,rfl,hB2⟩:=hB;have HW:=hid hW2;have HB:=hid hB2;obtain⟨wb,hwb⟩:∃wb,wb=w.alloc (.cells #[.string s,.int .i64 b,.slice aW W.length cW,.slice aB Br.length cB] 35):=⟨_,rfl⟩;have nD:=hid (show Fr [] w wb by rw[hwb];exact(Fr.refl [] w).alloc _);have GV:wb.heap[w.heap.size]?=some (.cells #[.string s,.int .i64 b,.slice aW W.length cW,.slice aB Br.length cB] 35 (0,0)):=by rw[hwb];exact fU w _
 have qy:=hid GV;have HE:=hid hend;have HT:=hid hT;have HC:=hid (mE.tZ s wb (by omega) (mE.oB hT (nD.out.below (ak _) (fun _ h=>absurd h af))));obtain⟨hb0,hb2⟩:=hb;have h1:¬(400:Int)<(s.size:Int):=by omega
 have h2:¬b<0:=by omega
 have h2':decide (b<0)=false:=aK h2;have h3:¬ 2<b:=by omega
 have h3':decide (2<b)=false:=aK h3;obtain⟨nW,Jn⟩:∃nW,nW=W.length:=⟨_,rfl⟩;obtain⟨nB,yK⟩:∃nB,nB=Br.length:=⟨_,rfl⟩;rw[<-Jn]at qy hwb tJ HW HR ⊢;rw[<-yK]at qy hwb hBl HB HR ⊢;have Oo:=hid Jn;have sU:=hid yK;clear hR hend hT hW2 hB2 GV Jn yK;go_enter func53,ntmps53;go_wp2_with fail;rw[<-hwb];clear hwb;refine HC.out.mono ?_;rintro e w1 ⟨n',v,hn',rfl,own,hbel,hnil⟩;obtain rfl:=gJ.jT HE.out hn';have iy:=hid (Fr.of_below (S:=[]) hbel);have HO:=hid own;obtain⟨aR,cR,hv⟩:=gA own;subst hv;have zh:=hid (fO qy.out iy.out af);have k0:=fN zh.out (i:=0) rfl;have k2:=fN zh.out (i:=2) rfl;have k3:=fN zh.out (i:=3) rfl;clear own hbel hnil hn' HC;by_cases hWn:nW=n
 ·obtain rfl:n=nW:=hWn.symm
  have HRn:=hid (show R=if Lay.Et W n=false then 3 else if Lay.jH (bnd s n) s.size Br nB=false then 4 else if Lay.early (iY s n) (gJ.pos s) (nth (bnd s n) ((bnd s n).length - 2)) n=true then 5 else 0 by
   rw[HR.out]
   cases h:Lay.Et W n
   ·rw[ay (.inr rfl),ay rfl]
   ·rw[au (show ¬(n≠n\/true=false) by simp),au (show ¬(true=false) by simp)])
  have hnn:((n:Int) == (n:Int))=true:=by simp
  clear hWn HR;go_wp2_with fail;go_loop [4] (fun ii=>∃i:Nat,ii=.int .i64 i/\i<=n/\Hid (∀j,j<i->0<=nth W j/\nth W j<=1073741824)) (fun ii=>n - (intOf ii).toNat)
  case atStart=>exact⟨0,rfl,aH _,hid (fun j hj=>absurd hj (bE _))⟩
  case round =>
   obtain⟨i,rfl,hin,HM⟩:=hrel;by_cases hil:i<n
   ·have sY:(i:Int)<(n:Int):=by omega
    obtain⟨g,o,haW,hrow⟩:=HW.out.resolve_left (by omega);have d0:=hrow.fr (nD.out.trans iy.out) af i hil;subst haW;have zi:=hid (fun h=>KR (W:=W) hil h);by_cases hw0:nth W i<0
    ·have xE:=hid (show R=3 by rw[HRn.out,ay (zi.out (by omega))])
     generalize nth W i=y at *;go_wp2;go_ret;exact⟨pE xE.out.symm,nD.out.trans iy.out⟩
    ·have ajR:decide (nth W i<0)=false:=aK hw0
     by_cases hw1:1073741824<nth W i
     ·have xE:=hid (show R=3 by rw[HRn.out,ay (zi.out (by omega))])
      generalize nth W i=y at *;go_wp2;go_ret;exact⟨pE xE.out.symm,nD.out.trans iy.out⟩
     ·have ajS:decide (1073741824<nth W i)=false:=aK hw1
      have tF:=hid (show ∀j,j<i+1->0<=nth W j/\nth W j<=1073741824 from fun j hj=>by
       rcases aA (aM hj)with h | h
       ·exact HM.out j h
       ·rw[h];omega)
      generalize nth W i=y at *;go_wp2;go_round
      case rel=>exact⟨i+1,by go_num,by omega,tF⟩
      case measure=>simp[intOf];omega
   ·obtain rfl:i=n:=by omega
    have HR2:=hid (show R=if Lay.jH (bnd s i) s.size Br nB=false then 4 else if Lay.early (iY s i) (gJ.pos s) (nth (bnd s i) ((bnd s i).length - 2)) i=true then 5 else 0 by
     rw[HRn.out,au (by rw[KS HM.out];simp)])
    have HC5:=hid (mE.mI s w1 (by omega) (mE.oB HT.out ((nD.out.trans iy.out).below (ak _) (fun _ h=>absurd h af))) i HE.out);clear HRn HM;go_wp2_with fail;refine HC5.out.mono ?_;rintro e w2 ⟨v5,rfl,qx,hb5⟩;have f_:=hid (iy.out.trans (Fr.of_below (S:=[]) hb5));have Fx:=hid (fO qy.out f_.out af);have iG:=hid (fS HO.out (Fr.of_below (S:=[]) hb5));obtain⟨B,hB⟩:∃B,B=bnd s i:=⟨_,rfl⟩;have aeO:1<=B.length:=by rw[hB];exact(pK s i).1
    have aeP:B.length<=i+2:=by rw[hB];exact(pK s i).2
    have aaW:0<i->2<=B.length:=fun h=>by
     rw[hB,Fl HE.out,dm];exact(jk s i).2.2 h
    rw[<-hB]at qx HR2;obtain⟨gB,cB5,hv5⟩:=fR (by omega) qx;subst hv5;have wV:=hid (show rowAt w2 gB B.length B from fun j hj=>by rw[qx.cellAt j (by omega),iJ hj]);have qM:=hid aaW;obtain⟨nb,hnb⟩:∃nb,nb=B.length:=⟨_,rfl⟩;have My:=hid (fun x (w':World) (hf:Fr [] w2 w')=>Ue B x gB cB5 w' (by omega) (wV.out.fr hf af));rw[<-hnb]at wV aeO aeP qM HR2 My ⊢;have m0:=fN Fx.out (i:=0) rfl;have m3:=fN Fx.out (i:=3) rfl;have ajT:=hid hnb;clear qx hb5 HC5 hB aaW hnb k0 k2 k3;go_wp2_with fail;go_loop [6,7] (fun ll ii=>∃k:Nat,ii=.int .i64 k/\k<=nB/\ll=.int .i64 (if k=0 then 0 else nth Br (k - 1))/\Hid (Lay.jH B s.size Br k=true)) (fun _ ii=>nB - (intOf ii).toNat)
    case atStart=>exact⟨0,rfl,aH _,rfl,rfl⟩
    case round =>
     obtain⟨k,rfl,hkn,rfl,Iv⟩:=hrel;by_cases hkl:k<nB
     ·have sX:(k:Int)<(nB:Int):=by omega
      obtain⟨g,o,haB,hrow⟩:=HB.out.resolve_left (by omega);have d0:=hrow.fr (nD.out.trans f_.out) af k hkl;subst haB;have HS:=hid (show Lay.jH B s.size Br (k+1)=(decide ((if k=0 then 0 else nth Br (k - 1))<nth Br k) && (decide (nth Br k<s.size) && B.contains (nth Br k))) by rw[Lay.jH,Iv.out,Bool.true_and]);have HM:=hid (fun h=>zf (B:=B) (z:=s.size) (Br:=Br) (k:=k+1) (j:=nB) (by omega) h);have mN:=hid (show(if k+1=0 then 0 else nth Br (k+1 - 1))=nth Br k by rw[au (by omega),bX]);have HH:=hid (My.out (nth Br k) w2 (Fr.refl _ _));generalize hx:nth Br k=x at *;generalize hlast:(if k=0 then 0 else nth Br (k - 1))=last at *;generalize hcon:B.contains x=con at *;clear hx hlast hcon;by_cases c1:x<=last
      ·have xE:=hid (show R=4 by rw[HR2.out,ay (HM.out (by rw[HS.out,aK (by omega),Bool.false_and]))])
       go_wp2_with (go_at_call 95;refine HH.out.mono ?_;rintro e w' ⟨rfl,rfl⟩);go_ret;exact⟨pE xE.out.symm,nD.out.trans f_.out⟩
      ·have c1':decide (x<=last)=false:=aK c1
       by_cases c2:(s.size:Int)<=x
       ·have xE:=hid (show R=4 by rw[HR2.out,ay (HM.out (by rw[HS.out,aK (show ¬x<(s.size:Int) by omega),Bool.false_and,eO]))])
        go_wp2_with (go_at_call 95;refine HH.out.mono ?_;rintro e w' ⟨rfl,rfl⟩);go_ret;exact⟨pE xE.out.symm,nD.out.trans f_.out⟩
       ·have c2':decide ((s.size:Int)<=x)=false:=aK c2
        cases con
        ·have xE:=hid (show R=4 by rw[HR2.out,ay (HM.out (by rw[HS.out,eO,eO]))])
         go_wp2_with (go_at_call 95;refine HH.out.mono ?_;rintro e w' ⟨rfl,rfl⟩);go_ret;exact⟨pE xE.out.symm,nD.out.trans f_.out⟩
        ·have HT2:=hid (show Lay.jH B s.size Br (k+1)=true by rw[HS.out,aZ (by omega),aZ (by omega)];rfl)
         go_wp2_with (go_at_call 95;refine HH.out.mono ?_;rintro e w' ⟨rfl,rfl⟩);go_round
         case rel=>exact⟨k+1,by go_num,by omega,by rw[mN.out],HT2⟩
         case measure=>simp[intOf];omega
     ·obtain rfl:k=nB:=by omega
      have HR3:=hid (show R=if Lay.early (iY s i) (gJ.pos s) (nth B (nb - 2)) i=true then 5 else 0 by rw[HR2.out,au (by rw[Iv.out];simp)]);have sX:¬(k:Int)<(k:Int):=by omega
      generalize (if k=0 then 0 else nth Br (k - 1))=last;clear HR2;go_wp2_with fail;clear m0 m3;go_loopw [10] (fun ii wr=>∃t:Nat,ii=.int .i64 t/\t<=i/\Hid (Fr [] w2 wr)/\Hid (Lay.early (iY s i) (gJ.pos s) (nth B (nb - 2)) t=false)) (fun ii _=>i - (intOf ii).toNat)
      case atStart=>exact⟨0,rfl,aH _,hid (Fr.refl _ _),rfl⟩
      case round =>
       obtain⟨t,rfl,hti,XH,HEt⟩:=hrel;by_cases htl:t<i
       ·have T5:(t:Int)<(i:Int):=by omega
        obtain⟨gR,cR',hvR⟩:=fR (by omega) iG.out;cases hvR;have aaY:=qM.out (by omega);have r0:wr.cell? ⟨gR,t * 3,none⟩=some (.int .i32 (gJ.rune s t)):=by
         rw[(fS iG.out XH.out).cellAt (t * 3) (by omega),(gJ.p7 _ t _ (gJ.y_ s i t htl)).1];rfl
        have FV:=hid (mE.gG (gJ.rune s t) wr);have HK:=hid (GU s htl);have HS:=hid (show Lay.early (iY s i) (gJ.pos s) (nth B (nb - 2)) (t+1)=(nth (iY s i) t == 10 && decide (((gJ.pos s t:Nat):Int)<nth B (nb - 2))) by rw[Lay.early,HEt.out,Bool.false_or]);have HM:=hid (fun h=>Co (K:=iY s i) (P:=gJ.pos s) (e:=nth B (nb - 2)) (k:=t+1) (j:=i) (by omega) h);rw[<-HK.out]at FV
        have HR1:=hid (fun(w':World) (hf:Fr [] w2 w')=>(show w'.cell? ⟨gR,t * 3+1,none⟩=some (.int .i64 (gJ.pos s t:Nat)) by
         rw[(fS iG.out hf).cellAt (t * 3+1) (by omega),(gJ.p7 _ t _ (gJ.y_ s i t htl)).2.1];rfl))
        have HB1:=hid (fun(w':World) (hf:Fr [] w2 w')=>wV.out.fr hf af (nb - 2) (by omega));generalize nth (iY s i) t=c at *;generalize gJ.rune s t=r at *;generalize gJ.pos s t=y at *;generalize nth B (nb - 2)=eb at *;have hwr:IntKind.i64.wrap ((nb:Int) - 2)=((nb - 2:Nat):Int):=by rw[eT];omega
        have aaZ:(nb:Int) - 2=((nb - 2:Nat):Int):=by omega
        have aa0:((nb - 2:Nat):Int)<(nb:Int):=by omega
        go_wp2_with fail;refine FV.out.mono ?_;rintro e w3 ⟨rfl,hb3⟩;have iO:=hid (XH.out.trans (Fr.of_below (S:=[]) hb3));have r1:=HR1.out w3 iO.out;have b1:=HB1.out w3 iO.out;clear hb3 FV r0;by_cases hc:c=10
        ·subst hc
         by_cases hy:((y:Nat):Int)<eb
         ·have xE:=hid (show R=5 by rw[HR3.out,ay (HM.out (by rw[HS.out,aZ hy];rfl))])
          go_wp2_with fail;go_quiet (fail);go_wp2;go_ret;exact⟨pE xE.out.symm,(nD.out.trans (f_.out.trans iO.out)).drewN _⟩
         ·have hy':decide (((y:Nat):Int)<eb)=false:=aK hy
          have HE2:=hid (show _=false from HS.out.trans (by rw[hy'];rfl));go_wp2_with fail;go_quiet (fail);go_wp2;go_roundw
          case rel=>exact⟨t+1,by go_num,by omega,hid (iO.out.drewN _),HE2⟩
          case measure=>simp[intOf];omega
        ·have hc':(c == 10)=false:=by simp[hc]
         have HE2:=hid (show _=false from HS.out.trans (by rw[hc'];rfl));go_wp2_with fail;go_quiet (fail);go_wp2;go_roundw
         case rel=>exact⟨t+1,by go_num,by omega,hid (iO.out.drewN _),HE2⟩
         case measure=>simp[intOf];omega
       ·obtain rfl:t=i:=by omega
        have xE:=hid (show R=0 by rw[HR3.out,au (by rw[HEt.out];simp)]);go_wp2;go_ret;exact⟨pE xE.out.symm,nD.out.trans (f_.out.trans XH.out)⟩
 ·have xE:=hid (show R=3 by rw[HR.out,ay (.inl hWn)])
  have ajU:¬(nW:Int)=(n:Int):=by omega
  have ajV:((nW:Int) == (n:Int))=false:=by simp;omega
  go_wp2;go_ret;exact⟨pE xE.out.symm,nD.out.trans iy.out⟩
theorem Ct {s:ByteArray}{n:Nat}(h:gJ.Ends s n):∀(f k:Nat),k<=n->n - k<=f->Lib.runeCountFrom s f (gJ.pos s k)=n - k
 | 0,k,h1,h2=>by rw[Lib.runeCountFrom];omega
 | f+1,k,h1,h2=>by
   rw[Lib.runeCountFrom]
   rcases aA h1 with h3 | h3
   ·rw[ay (h.2 k h3)]
    have ih:=Ct h f (k+1) h3 (by omega);have e:gJ.pos s k+(Utf8.decode s (gJ.pos s k)).2=gJ.pos s (k+1):=rfl;rw[e,ih];omega
   ·rw[h3,h.1,au (by omega)];omega
theorem Jo {s:ByteArray}{n:Nat}(h:gJ.Ends s n):Lib.runeCount s=n:=by
 have h1:=Ct h s.size 0 (aH _) (by have:=gJ.lU s n;have:=h.1;omega);exact h1
def Tj (x:Int):Bool:=decide (x<0) || decide (1073741824<x)
theorem Ul (x:Int)(w:World):Calls prog 222 #[.int .i64 x] w fun e w'=>e=.returned (.bool (Tj x))/\w'=w:=by
 by_cases h1:x<0
 ·have e:Tj x=true:=by simp[Tj,h1]
  rw[e];go_enter func222,ntmps222;go_wp2;go_ret;exact⟨rfl,rfl⟩
 ·have h1':decide (x<0)=false:=aK h1
  by_cases h2:1073741824<x
  ·have e:Tj x=true:=by simp[Tj,h2]
   rw[e];go_enter func222,ntmps222;go_wp2;go_ret;exact⟨rfl,rfl⟩
  ·have e:Tj x=false:=by simp[Tj];omega
   have h2':decide (1073741824<x)=false:=aK h2;rw[e];go_enter func222,ntmps222;go_wp2;go_ret;exact⟨rfl,rfl⟩
theorem Um (W:List Int)(v:Value)(w:World)(hv:mA w v W)(hl:W.length<=5000):Calls prog 242 #[v,.func (.func 222) #[] #[]] w fun e w'=>∃r:Int,e=.returned (.int .i64 r)/\((r=-1/\Et W W.length=true)\/(0<=r/\Et W W.length=false))/\w'=w:=by
 obtain⟨a,c,rfl,hrow⟩:=hv;have HR:=hid hrow;obtain⟨n,hn⟩:∃n,n=W.length:=⟨_,rfl⟩;rw[<-hn]at hl HR ⊢;have HN:=hid hn;clear hrow hn;go_enter func242,ntmps242;go_wp2_with fail;go_loop [8] (fun ii=>∃i:Nat,ii=.int .i64 i/\i<=n/\Hid (∀j,j<i->0<=nth W j/\nth W j<=1073741824)) (fun ii=>n - (intOf ii).toNat)
 case atStart=>exact⟨0,rfl,aH _,hid (fun j hj=>absurd hj (bE _))⟩
 case round =>
  obtain⟨i,rfl,hin,HM⟩:=hrel;by_cases hil:i<n
  ·have sY:(i:Int)<(n:Int):=by omega
   obtain⟨g,o,ha,hr⟩:=HR.out.resolve_left (by omega);have d0:=hr i hil;subst ha;have HO:=hid (Ul (nth W i));have zi:=hid (fun h=>KR (W:=W) hil h);cases ho:Tj (nth W i)
   ·have tF:=hid (show ∀j,j<i+1->0<=nth W j/\nth W j<=1073741824 from fun j hj=>by
     rcases aA (aM hj)with h | h
     ·exact HM.out j h
     ·rw[h];simp[Tj]at ho;omega)
    rw[ho]at HO;clear ho;generalize nth W i=y at *;go_wp2_with (go_at_call 222;refine(HO.out _).mono ?_;rintro e w' ⟨rfl,rfl⟩);go_round
    case rel=>exact⟨i+1,by go_num,by omega,tF⟩
    case measure=>simp[intOf];omega
   ·have HF:=hid (zi.out (fun h=>by simp[Tj]at ho;omega))
    rw[ho]at HO;clear ho;generalize nth W i=y at *;go_wp2_with (go_at_call 222;refine(HO.out _).mono ?_;rintro e w' ⟨rfl,rfl⟩);go_ret;exact⟨_,rfl,.inr ⟨by omega,HF.out⟩,rfl⟩
  ·have HT:=hid (KS (W:=W) (n:=n) (fun j hj=>HM.out j (by omega)))
   go_wp2;go_ret;exact⟨_,rfl,.inl ⟨rfl,HT.out⟩,rfl⟩
theorem Qh (W:List Int)(v:Value)(w:World)(hv:mA w v W)(hl:W.length<=5000):Calls prog 221 #[v,.func (.func 222) #[] #[]] w fun e w'=>e=.returned (.bool (!Et W W.length))/\w'=w:=by
 have H:=hid (Um W v w hv hl);generalize Et W W.length=ok at *;clear hv;go_enter func221,ntmps221;go_wp2_with fail;refine H.out.mono ?_;rintro e w' ⟨r,rfl,hr,rfl⟩
 rcases hr with⟨rfl,rfl⟩ | ⟨h0,rfl⟩
 ·go_wp2
  go_ret;exact⟨rfl,rfl⟩
 ·go_wp2
  go_ret;exact⟨rfl,rfl⟩
theorem KT (w:World)(s:ByteArray)(q:Nat):Fr [] w (w.iter s q):=(Fr.refl [] w).alloc (.stringIter s q)
def s7 (w:World)(g:Nat):Prop:=∃t v,w.cell? ⟨g,0,none⟩=some (.iface t v)
def okW (W:List Int)(n:Nat):Bool:=decide (W.length=n) && Et W n
theorem Un (s:ByteArray)(n:Nat)(W:List Int)(v:Value)(w:World)(hs:s.size<=400)(hend:gJ.Ends s n)(hv:mA w v W)(hl:W.length<=5000)(h5:s7 w 5)(h6:s7 w 6) :
 Calls prog 200 #[.string s,v] w fun e w'=>∃x,e=.returned x/\((∃t u,x=.iface t u/\okW W n=false)\/(x=.nilIface/\okW W n=true))/\Fr [] w w':=by
 have HC:=hid (Tryz.utf8_RuneCountInString s w (by omega));rw[Jo hend]at HC;obtain⟨a,c,rfl,hrow⟩:=hv;obtain⟨t5,v5,c5⟩:=h5;obtain⟨t6,v6,c6⟩:=h6;have DC:n<=400:=by have:=gJ.lU s n;have:=hend.1;omega
 have HV:=hid (show mA w (.slice a W.length c) W from⟨a,c,rfl,hrow⟩);have HK:=hid (fun(w':World) (hf:Fr [] w w')=>Qh W _ w' (HV.out.fr hf) hl);obtain⟨ok,hok⟩:∃ok,ok=okW W n:=⟨_,rfl⟩;rw[<-hok];obtain⟨m,hm⟩:∃m,m=W.length:=⟨_,rfl⟩;rw[<-hm]at HK hl ⊢;have Fy:=hid (show ok=(decide (m=n) && Et W n) by rw[hok,hm];rfl);clear hrow hend hm hok;go_enter func200,ntmps200;go_wp2_with fail;refine HC.out.mono ?_;rintro e w1 ⟨rfl,q,rfl⟩;have hf1:Fr [] w (w.iter s q):=KT w s q;have iy:=hid hf1;have HK1:=hid (HK.out _ hf1);have d5:=hf1.cell c5 af;have d6:=hf1.cell c6 af;obtain⟨w1,hw1⟩:∃w1,w1=w.iter s q:=⟨_,rfl⟩;rw[<-hw1]at d5 d6 iy HK1 ⊢;clear hw1 hf1 c5 c6 HC HK;by_cases hmn:m=n
 ·subst hmn
  have Uo:=hid (show ok=Et W m by rw[Fy.out];simp);clear Fy;generalize Et W m=wk at *;cases wk
  all_goals (
   go_wp2_with (go_at_call 221;refine HK1.out.mono ?_;rintro e w' ⟨rfl,rfl⟩)
   go_ret
   first
   | exact⟨_,rfl,.inl ⟨_,_,rfl,Uo.out⟩,iy.out⟩
   | exact⟨_,rfl,.inr ⟨rfl,Uo.out⟩,iy.out⟩)
 ·have Uo:=hid (show ok=false by rw[Fy.out,aK hmn];rfl)
  have hnn:((m:Int) == (n:Int))=false:=by simp;omega
  have ajW:¬(m:Int)=(n:Int):=by omega
  go_wp2;go_ret;exact⟨_,rfl,.inl ⟨_,_,rfl,Uo.out⟩,iy.out⟩
end Go.Proofs.YtnakejhohdbfdaaGreatDoor
namespace Go.Proofs.YtnakejhohdbfdaaGreatDoor.Lay
open Go gJ uS jN Go.Proofs.Tryz
theorem Qi (l c:Int):0<=up l c/\up l c<=2:=by unfold up;repeat(first | omega | split)
theorem Ae (K C:List Int)(base:Int)(hb:0<=base/\base<=1)(L:List Int)(hL:∀i,0<=nth L i/\nth L i<=9):∀k,(0<=(gU K C base k L).1/\(gU K C base k L).1<=11)/\(∀i,0<=nth (gU K C base k L).2 i/\nth (gU K C base k L).2 i<=11)/\∀i,k<=i->nth (gU K C base k L).2 i<=9
 | 0=>by
   refine⟨by simp only[gU];omega,fun i=>?_,fun i _=>(hL i).2⟩;have:=hL i;simp only[gU];omega
 | k+1=>by
   obtain⟨h1,h2,h3⟩:=Ae K C base hb L hL k;have hset:∀(M:List Int) (v:Int) (i:Nat),(0<=v/\v<=11)->(0<=nth M i/\nth M i<=11)->(0<=nth (M.set k v) i/\nth (M.set k v) i<=11)/\(k+1<=i->nth (M.set k v) i=nth M i):=by
    intro M v i hv hm;by_cases e:k=i
    ·subst e
     refine⟨?_,fun h=>by omega⟩;by_cases hl:k<M.length
     ·rw[nth,aQ hl];exact hv
     ·rw[nth,bq (by rw[aY];omega)];decide
    ·rw[nth,aU e];exact⟨hm,fun _=>rfl⟩
   rw[gU]
   try dsimp only
   split
   ·exact⟨h1,fun i=>(hset _ _ i h1 (h2 i)).1,fun i hi=>by rw[(hset _ _ i h1 (h2 i)).2 hi];exact h3 i (by omega)⟩
   ·have hu:=Qi (nth (gU K C base k L).2 k) (nth C k)
    have hk:=h3 k (ak _);have hk0:=(h2 k).1;have hv:0<=nth (gU K C base k L).2 k+up (nth (gU K C base k L).2 k) (nth C k)/\nth (gU K C base k L).2 k+up (nth (gU K C base k L).2 k) (nth C k)<=11:=by omega
    exact⟨hv,fun i=>(hset _ _ i hv (h2 i)).1,fun i hi=>by rw[(hset _ _ i hv (h2 i)).2 hi];exact h3 i (by omega)⟩
theorem Mz (R K:List Int)(base:Int)(hb:base=0\/base=1)(i:Nat):0<=nth (levels R K base) i/\nth (levels R K base) i<=11 :=
 (Ae K _ base (by omega) _ (nM K base hb K.length (ak _)).small K.length).2.1 i
theorem zk (R K:List Int)(base:Int)(hb:base=0\/base=1)(ed:Nat->Bool)(i:Nat):0<=Tf K (levels R K base) base ed i/\Tf K (levels R K base) base ed i<=11:=by
 have:=Mz R K base hb i;unfold Tf;split <;> omega
def cidx (B:List Int)(x:Int):Nat:=B.countP (fun y=>decide (y<x))
def ei (B:List Int)(c:Nat)(Br:List Int)(k:Nat):Nat:=if k=0 then 0 else if k<=Br.length then cidx B (nth Br (k - 1))else c
def Iw (I:List Nat)(B:List Int)(Br:List Int)(j:Nat):Bool:=(List.range (Br.length+2)).any fun k=>decide (fX I (ei B (I.length - 1) Br k)=j)
theorem A8 {B:List Int}{z:Int}(hr:jf B z){x:Int}(hc:B.contains x=true):cidx B x<B.length/\B.getD (cidx B x) 0=x:=by
 obtain⟨k,hk⟩:=p9 x B hr.sorted;rw[cidx,uU hk];exact(contains_iff hr.sorted hk).1 hc
theorem qg (l:List Int)(i:Nat):nth l i=l.getD i 0:=by rw[nth,List.getD]
theorem mJ {s:ByteArray}{n:Nat}(h:gJ.Ends s n){k:Nat}(hk:k<(jw s n).length):nth (bnd s n) k=((pos s (fX (jw s n) k):Nat):Int):=by
 rw[Fl h,nth,fX,bV,az hk];rfl
theorem j5 {s:ByteArray}{n:Nat}(h:gJ.Ends s n):(bnd s n).length=(jw s n).length:=by rw[Fl h,dm]
structure qN (s:ByteArray)(n:Nat)(Br:List Int):Prop where
 e0:ei (bnd s n) (cn s n) Br 0=0
 eN:ei (bnd s n) (cn s n) Br (Br.length+1)=cn s n
 mono:∀i j,i<j->j<=Br.length+1->ei (bnd s n) (cn s n) Br i<ei (bnd s n) (cn s n) Br j
 le:∀k,k<=Br.length+1->ei (bnd s n) (cn s n) Br k<=cn s n
 at_:∀k,k<Br.length->((pos s (fX (jw s n) (ei (bnd s n) (cn s n) Br (k+1))):Nat):Int)=nth Br k
theorem Cu {s:ByteArray}{n:Nat}(h:gJ.Ends s n)(hn:0<n)(Br:List Int)(hB:jH (bnd s n) s.size Br Br.length=true):qN s n Br:=by
 have hr:=lP h;have hlen:=j5 h;have hl2:=jk s n;have hc:∀k,k<Br.length->cidx (bnd s n) (nth Br k)<(jw s n).length/\((pos s (fX (jw s n) (cidx (bnd s n) (nth Br k))):Nat):Int)=nth Br k:=fun k hk=>by
  obtain⟨a1,a2⟩:=A8 hr (sS hB k hk).2.2;rw[hlen]at a1;refine⟨a1,?_⟩;rw[<-mJ h a1,qg];exact a2
 have step:∀k,k<=Br.length->ei (bnd s n) (cn s n) Br k<ei (bnd s n) (cn s n) Br (k+1):=by
  intro k hk;have key:∀a b,a<(jw s n).length->b<(jw s n).length->((pos s (fX (jw s n) a):Nat):Int)<((pos s (fX (jw s n) b):Nat):Int)->a<b:=by
   intro a b ha hb hlt
   rcases bT a b with h1 | h1 | h1
   ·exact h1
   ·subst h1;omega
   ·have:=kY s _ _ (qT (kR s n) h1 ha);omega
  have hcl:cn s n<(jw s n).length:=by rw[cn];omega
  have hend:((pos s (fX (jw s n) (cn s n)):Nat):Int)=((s.size:Nat):Int):=by rw[kL,h.1]
  have h0:((pos s (fX (jw s n) 0):Nat):Int)=0:=by rw[Ca];rfl
  have hs0:(0:Int)<((s.size:Nat):Int):=by have:=h.2 0 hn;omega
  by_cases hk0:k=0
  ·subst hk0
   have e1:ei (bnd s n) (cn s n) Br 0=0:=rfl;rw[e1];by_cases hb:0<Br.length
   ·have e2:ei (bnd s n) (cn s n) Br (0+1)=cidx (bnd s n) (nth Br 0):=by rw[ei,au (by omega),ay (by omega)]
    rw[e2];have h1:=sS hB 0 hb;rw[ay rfl]at h1;exact key _ _ (by omega) (hc 0 hb).1 (by rw[h0,(hc 0 hb).2];exact h1.1)
   ·have e2:ei (bnd s n) (cn s n) Br (0+1)=cn s n:=by rw[ei,au (by omega),au (by omega)]
    rw[e2];exact key _ _ (by omega) hcl (by rw[h0,hend];exact hs0)
  ·have e1:ei (bnd s n) (cn s n) Br k=cidx (bnd s n) (nth Br (k - 1)):=by rw[ei,au hk0,ay hk]
   rw[e1];have h1:=hc (k - 1) (by omega);by_cases hb:k<Br.length
   ·have e2:ei (bnd s n) (cn s n) Br (k+1)=cidx (bnd s n) (nth Br k):=by rw[ei,au (by omega),ay (by omega),bX]
    rw[e2];have h2:=sS hB k hb;rw[au hk0]at h2;exact key _ _ h1.1 (hc k hb).1 (by rw[h1.2,(hc k hb).2];exact h2.1)
   ·have e2:ei (bnd s n) (cn s n) Br (k+1)=cn s n:=by rw[ei,au (by omega),au (by omega)]
    rw[e2];have h2:=(sS hB (k - 1) (by omega)).2.1;exact key _ _ h1.1 hcl (by rw[h1.2,hend];exact h2)
 have mono:∀d i,i+d+1<=Br.length+1->ei (bnd s n) (cn s n) Br i<ei (bnd s n) (cn s n) Br (i+d+1):=by
  intro d
  induction d with
  | zero=>intro i hi;exact step i (by omega)
  | succ d ih=>intro i hi;exact eP (ih i (by omega)) (step (i+d+1) (by omega))
 have eN:ei (bnd s n) (cn s n) Br (Br.length+1)=cn s n:=by rw[ei,au (by omega),au (by omega)]
 have mono':∀i j,i<j->j<=Br.length+1->ei (bnd s n) (cn s n) Br i<ei (bnd s n) (cn s n) Br j:=fun i j hij hj=>by
  have:=mono (j - i - 1) i (by omega)
  rwa [show i+(j - i - 1)+1=j by omega]at this
 refine⟨rfl,eN,mono',fun k hk=>?_,fun k hk=>?_⟩
 ·rcases aA hk with h1 | h1
  ·have:=mono' k (Br.length+1) h1 (ak _);rw[eN]at this;omega
  ·rw[h1,eN];exact ak _
 ·rw[ei,au (by omega),ay (by omega),bX];exact(hc k hk).2
theorem Up {s:ByteArray}{n:Nat}{Br:List Int}{k:Nat}(hk:k<=Br.length+1):Iw (jw s n) (bnd s n) Br (fX (jw s n) (ei (bnd s n) (cn s n) Br k))=true:=by
 rw[Iw,eI];exact⟨k,bS.2 (by omega),aZ rfl⟩
theorem XJ {s:ByteArray}{n:Nat}{Br:List Int}(E:qN s n Br){k:Nat}(hk:k<=Br.length){j:Nat}(h1:fX (jw s n) (ei (bnd s n) (cn s n) Br k)<j)(h2:j<fX (jw s n) (ei (bnd s n) (cn s n) Br (k+1))):Iw (jw s n) (bnd s n) Br j=false:=by
 have hcl:cn s n<(jw s n).length:=by have:=jk s n;rw[cn];omega
 cases h:Iw (jw s n) (bnd s n) Br j
 ·rfl
 ·rw[Iw,eI]at h
  obtain⟨m,hm,e⟩:=h;have hm':=bS.1 hm;have e':fX (jw s n) (ei (bnd s n) (cn s n) Br m)=j:=dz e
  rcases bP m (k+1)with h3 | h3
  ·have h4:ei (bnd s n) (cn s n) Br m<=ei (bnd s n) (cn s n) Br k:=by
    rcases aA (aM h3)with h5 | h5
    ·exact bZ (E.mono m k h5 (by omega))
    ·rw[h5];exact ak _
   rcases aA h4 with h5 | h5
   ·have:=qT (kR s n) h5 (by have:=E.le k (by omega);omega);omega
   ·rw[h5]at e';omega
  ·have h4:ei (bnd s n) (cn s n) Br (k+1)<=ei (bnd s n) (cn s n) Br m:=by
    rcases aA h3 with h5 | h5
    ·exact bZ (E.mono (k+1) m h5 (by omega))
    ·rw[<-h5];exact ak _
   rcases aA h4 with h5 | h5
   ·have:=qT (kR s n) h5 (by have:=E.le m (by omega);omega);omega
   ·rw[<-h5]at e';omega
end Go.Proofs.YtnakejhohdbfdaaGreatDoor.Lay
namespace Go.Proofs.YtnakejhohdbfdaaGreatDoor.mE
open Go.RowKit gJ ZB uS Go.Proofs.Tryz
theorem ints_at {l:List Int}{j:Nat}(h:j<l.length):(gu l)[j]?=some (.int .i64 (l.getD j 0)):=by
 rw[gu,bV,az h];simp[List.getD,h]
theorem GW (l:List Int)(z:Int)(hr:jf l z)(x:Int)(k g cap:Nat)(w:World)(hc:Cut l x k)(hl:l.length<=1000002)(hcell:∀j,j<l.length->w.cell? ⟨g,j,none⟩=some (.int .i64 (l.getD j 0))) :
 Calls prog 166 #[.slice (some ⟨g,0,none⟩) l.length cap,.int .i64 x] w fun e w'=>e=.returned (.tuple #[.int .i64 (k:Nat),.bool (l.contains x)])/\∃q,w'=w.drewN q:=by
 have h:=Any.slices_BinarySearch_int Tryz.Er g 0 l.length cap l x w (ak _) (by omega) (fun j hj=>by rw[c_];exact hcell j hj)
  (by rw[cK];exact hr.sorted.imp fun h=>Int.le_of_lt h)
 rw[cK]at h;have e:l.countP (fun y=>decide (y<x))=k:=uU hc;rw[e]at h;exact h
theorem Qj (l:List Int)(z:Int)(hr:jf l z)(off:Int)(up:Bool)(k g cap:Nat)(w:World)(hz:0<=z)(hc:Cut l (min (max off 0) z) k)(hl:l.length<=1000002)(hcell:∀j,j<l.length->w.cell? ⟨g,j,none⟩=some (.int .i64 (l.getD j 0))) :
 Calls prog 100 #[.slice (some ⟨g,0,none⟩) l.length cap,.int .i64 off,.bool up] w fun e w'=>e=.returned (.int .i64 (o8 l (min (max off 0) z) up k))/\∃q,w'=w.drewN q:=by
 have HR:=hide hr;have uk:=hide hc;have hk:=hr.Fi hc (by omega);have hx0:0<=min (max off 0) z:=by omega
 have HX0:=hide hx0;have rU:=hide hcell;have sX:(k:Int)<(l.length:Int):=by omega
 obtain⟨d,hd⟩:∃d,l.length=d+1:=⟨l.length - 1,by omega⟩;have hzc:w.cell? ⟨g,d,none⟩=some (.int .i64 z):=by
  rw[hcell d (by omega),List.getD,show d=l.length - 1 by omega,hr.last];rfl
 have hdI:(l.length:Int) - 1=(d:Int):=by omega
 have aeR:(d:Int)<(l.length:Int):=by omega
 generalize hsn:o8 l (min (max off 0) z) up k=sn;have Ff:=hide hsn;clear hr hc hcell hx0 hsn hd;go_enter func100,ntmps100;go_wp2_with fail;refine(GW l _ HR.out _ k g cap w uk.out (by omega) rU.out).mono ?_;rintro e w2 ⟨rfl,q,rfl⟩;clear hzc hdI aeR;cases hct:l.contains (min (max off 0) z)
 ·have hk0:=HR.out.Fj uk.out HX0.out hct
  cases up
  ·have E:l.getD (k - 1) 0=sn:=by rw[<-Ff.out];unfold o8;rw[hct];rfl
   obtain⟨r,hr⟩:∃r,k=r+1:=⟨k - 1,by omega⟩;subst hr;have c:=rU.out r (by omega);rw[show r+1 - 1=r by omega]at E;rw[E]at c;have hri:(r:Int)<(l.length:Int):=by omega
   clear E hct sX;go_wp2;go_ret;exact⟨rfl,q,rfl⟩
  ·have E:l.getD k 0=sn:=A4.symm.trans Ff.out
   have c:=rU.out k hk;rw[E]at c;clear E hct;go_wp2;go_ret;exact⟨rfl,q,rfl⟩
 ·have E:l.getD k 0=sn:=by rw[<-Ff.out];unfold o8;rw[hct];rfl
  have c:=rU.out k hk;rw[E]at c;clear E hct;go_wp2;go_ret;exact⟨rfl,q,rfl⟩
theorem MA (s:ByteArray)(off:Int)(up:Bool)(w:World)(hs:s.size<=1000000)(hT:Lib.Utf8Tabs 1 2 w)(n k:Nat)(hend:gJ.Ends s n)(hx:off<0)(hc:Cut (bnd s n) 0 k) :
 Calls prog 58 #[.string s,.int .i64 off,.bool up] w fun e w'=>e=.returned (.int .i64 (o8 (bnd s n) 0 up k))/\Below w.heap.size w w':=by
 have CB:=hide (mI s w hs hT n hend);have HR:=hide (lP hend);have uk:=hide hc;have hk:=HR.out.Fi hc (by omega);have hlen:=pK s n;have hns:n<=s.size:=by have:=lU s n;have:=hend.1;omega
 generalize hsn:o8 (bnd s n) 0 up k=sn;have Ff:=hide hsn;clear hT hend hc hsn;generalize bnd s n=l at *;go_enter func58,ntmps58;go_wp2_with fail;refine CB.out.mono ?_;rintro e w1 ⟨v,rfl,og,hb1⟩;obtain⟨g,cap,hv⟩:=mq (by omega) og;subst hv;have HO:=hide og;have HB:=hide hb1;clear og hb1 CB;have rU:Hid (∀j,j<l.length->w1.cell? ⟨g,j,none⟩=some (.int .i64 (l.getD j 0))):=fun j hj=>(HO.out.cellAt j (by omega)).trans (ints_at hj)
 go_wp2_with fail;go_loop [8,9] (fun b i=>∃j:Nat,j<=l.length/\i=.int .i64 j/\b=.int .i64 (best l 0 j)) (fun _ i=>l.length - (intOf i).toNat)
 case atStart=>exact⟨0,aH _,rfl,rfl⟩
 case round =>
  obtain⟨j,hj,rfl,rfl⟩:=hrel;by_cases hjl:j<l.length
  ·have c:=rU.out j hjl
   by_cases hle:l.getD j 0<=0
   ·have xF:Hid (best l 0 (j+1)=l.getD j 0):=by rw[best,ay hle];rfl
    generalize l.getD j 0=y at c hle xF;generalize best l 0 j=b0;go_wp2;go_round
    case rel=>exact⟨j+1,by omega,by go_num,by rw[xF.out]⟩
    case measure=>simp[intOf];omega
   ·have xF:Hid (best l 0 (j+1)=best l 0 j):=by rw[best,au hle];rfl
    generalize l.getD j 0=y at c hle;generalize best l 0 j=b0 at xF;go_wp2;go_round
    case rel=>exact⟨j+1,by omega,by go_num,by rw[xF.out]⟩
    case measure=>simp[intOf];omega
  ·obtain rfl:j=l.length:=by omega
   generalize hb0:best l 0 l.length=b0;have HB0:=hide hb0;clear hb0;cases up
   ·have E:b0=sn:=HB0.out.symm.trans ((rK HR.out uk.out (by omega)).trans Ff.out)
    subst E;go_wp2;go_ret;exact⟨rfl,HB.out⟩
   ·by_cases hbx:b0=0
    ·have E:b0=sn:=by rw[hbx];exact(zb HR.out uk.out (by omega) (HB0.out.trans hbx)).symm.trans Ff.out
     subst E;have hbb:(b0 == 0)=true:=by rw[hbx];simp
     clear hbx;go_wp2;go_ret;exact⟨rfl,HB.out⟩
    ·have hbb:(b0 == 0)=false:=aF.2 hbx
     have E:l.getD k 0=sn:=A4.symm.trans Ff.out;have HE:=hide E;clear E hbx;go_wp2_with fail;go_loop [10] (fun i=>∃j:Nat,j<=k/\i=.int .i64 j) (fun i=>k+1 - (intOf i).toNat)
     case atStart=>exact⟨0,aH _,rfl⟩
     case round =>
      obtain⟨j,hjk,rfl⟩:=hrel;have Cv:j<l.length:=by omega
      have c:=rU.out j Cv;by_cases hlt:j<k
      ·have hy:=uk.out.2.1 j hlt
       generalize l.getD j 0=y at c hy;go_wp2;go_round
       case rel=>exact⟨j+1,by omega,by go_num⟩
       case measure=>simp[intOf];omega
      ·obtain rfl:j=k:=by omega
       have hy:=uk.out.2.2 j (ak _) Cv;rw[HE.out]at c hy;go_wp2;go_ret;exact⟨rfl,HB.out⟩
theorem MB (s:ByteArray)(off:Int)(up:Bool)(w:World)(hs:s.size<=1000000)(hT:Lib.Utf8Tabs 1 2 w)(n k:Nat)(hend:gJ.Ends s n)(hx:0<=off)(hx2:off<=(s.size:Int))(hc:Cut (bnd s n) off k) :
 Calls prog 58 #[.string s,.int .i64 off,.bool up] w fun e w'=>e=.returned (.int .i64 (o8 (bnd s n) off up k))/\Below w.heap.size w w':=by
 have CB:=hide (mI s w hs hT n hend);have HR:=hide (lP hend);have uk:=hide hc;have hk:=HR.out.Fi hc (by omega);have hlen:=pK s n;have hns:n<=s.size:=by have:=lU s n;have:=hend.1;omega
 generalize hsn:o8 (bnd s n) off up k=sn;have Ff:=hide hsn;clear hT hend hc hsn;generalize bnd s n=l at *;go_enter func58,ntmps58;go_wp2_with fail;refine CB.out.mono ?_;rintro e w1 ⟨v,rfl,og,hb1⟩;obtain⟨g,cap,hv⟩:=mq (by omega) og;subst hv;have HO:=hide og;have HB:=hide hb1;clear og hb1 CB;have rU:Hid (∀j,j<l.length->w1.cell? ⟨g,j,none⟩=some (.int .i64 (l.getD j 0))):=fun j hj=>(HO.out.cellAt j (by omega)).trans (ints_at hj)
 go_wp2_with fail;go_loop [8,9] (fun b i=>∃j:Nat,j<=l.length/\i=.int .i64 j/\b=.int .i64 (best l off j)) (fun _ i=>l.length - (intOf i).toNat)
 case atStart=>exact⟨0,aH _,rfl,rfl⟩
 case round =>
  obtain⟨j,hj,rfl,rfl⟩:=hrel;by_cases hjl:j<l.length
  ·have c:=rU.out j hjl
   by_cases hle:l.getD j 0<=off
   ·have xF:Hid (best l off (j+1)=l.getD j 0):=by rw[best,ay hle];rfl
    generalize l.getD j 0=y at c hle xF;generalize best l off j=b0;go_wp2;go_round
    case rel=>exact⟨j+1,by omega,by go_num,by rw[xF.out]⟩
    case measure=>simp[intOf];omega
   ·have xF:Hid (best l off (j+1)=best l off j):=by rw[best,au hle];rfl
    generalize l.getD j 0=y at c hle;generalize best l off j=b0 at xF;go_wp2;go_round
    case rel=>exact⟨j+1,by omega,by go_num,by rw[xF.out]⟩
    case measure=>simp[intOf];omega
  ·obtain rfl:j=l.length:=by omega
   generalize hb0:best l off l.length=b0;have HB0:=hide hb0;clear hb0;cases up
   ·have E:b0=sn:=HB0.out.symm.trans ((rK HR.out uk.out (by omega)).trans Ff.out)
    subst E;go_wp2;go_ret;exact⟨rfl,HB.out⟩
   ·by_cases hbx:b0=off
    ·have E:b0=sn:=by rw[hbx];exact(zb HR.out uk.out (by omega) (HB0.out.trans hbx)).symm.trans Ff.out
     subst E;have hbb:(b0 == off)=true:=by rw[hbx];simp
     clear hbx;go_wp2;go_ret;exact⟨rfl,HB.out⟩
    ·have hbb:(b0 == off)=false:=aF.2 hbx
     have E:l.getD k 0=sn:=A4.symm.trans Ff.out;have HE:=hide E;clear E hbx;go_wp2_with fail;go_loop [10] (fun i=>∃j:Nat,j<=k/\i=.int .i64 j) (fun i=>k+1 - (intOf i).toNat)
     case atStart=>exact⟨0,aH _,rfl⟩
     case round =>
      obtain⟨j,hjk,rfl⟩:=hrel;have Cv:j<l.length:=by omega
      have c:=rU.out j Cv;by_cases hlt:j<k
      ·have hy:=uk.out.2.1 j hlt
       generalize l.getD j 0=y at c hy;go_wp2;go_round
       case rel=>exact⟨j+1,by omega,by go_num⟩
       case measure=>simp[intOf];omega
      ·obtain rfl:j=k:=by omega
       have hy:=uk.out.2.2 j (ak _) Cv;rw[HE.out]at c hy;go_wp2;go_ret;exact⟨rfl,HB.out⟩
theorem Jp (s:ByteArray)(off:Int)(up:Bool)(w:World)(hs:s.size<=1000000)(hT:Lib.Utf8Tabs 1 2 w)(n k:Nat)(hend:gJ.Ends s n)(hx:(s.size:Int)<off)(hc:Cut (bnd s n) (s.size:Int) k) :
 Calls prog 58 #[.string s,.int .i64 off,.bool up] w fun e w'=>e=.returned (.int .i64 (o8 (bnd s n) (s.size:Int) up k))/\Below w.heap.size w w':=by
 have CB:=hide (mI s w hs hT n hend);have HR:=hide (lP hend);have uk:=hide hc;have hk:=HR.out.Fi hc (by omega);have hlen:=pK s n;have hns:n<=s.size:=by have:=lU s n;have:=hend.1;omega
 generalize hsn:o8 (bnd s n) (s.size:Int) up k=sn;have Ff:=hide hsn;clear hT hend hc hsn;generalize bnd s n=l at *;go_enter func58,ntmps58;go_wp2_with fail;refine CB.out.mono ?_;rintro e w1 ⟨v,rfl,og,hb1⟩;obtain⟨g,cap,hv⟩:=mq (by omega) og;subst hv;have HO:=hide og;have HB:=hide hb1;clear og hb1 CB;have rU:Hid (∀j,j<l.length->w1.cell? ⟨g,j,none⟩=some (.int .i64 (l.getD j 0))):=fun j hj=>(HO.out.cellAt j (by omega)).trans (ints_at hj)
 go_wp2_with fail;go_loop [8,9] (fun b i=>∃j:Nat,j<=l.length/\i=.int .i64 j/\b=.int .i64 (best l (s.size:Int) j)) (fun _ i=>l.length - (intOf i).toNat)
 case atStart=>exact⟨0,aH _,rfl,rfl⟩
 case round =>
  obtain⟨j,hj,rfl,rfl⟩:=hrel;by_cases hjl:j<l.length
  ·have c:=rU.out j hjl
   by_cases hle:l.getD j 0<=(s.size:Int)
   ·have xF:Hid (best l (s.size:Int) (j+1)=l.getD j 0):=by rw[best,ay hle];rfl
    generalize l.getD j 0=y at c hle xF;generalize best l (s.size:Int) j=b0;go_wp2;go_round
    case rel=>exact⟨j+1,by omega,by go_num,by rw[xF.out]⟩
    case measure=>simp[intOf];omega
   ·have xF:Hid (best l (s.size:Int) (j+1)=best l (s.size:Int) j):=by rw[best,au hle];rfl
    generalize l.getD j 0=y at c hle;generalize best l (s.size:Int) j=b0 at xF;go_wp2;go_round
    case rel=>exact⟨j+1,by omega,by go_num,by rw[xF.out]⟩
    case measure=>simp[intOf];omega
  ·obtain rfl:j=l.length:=by omega
   generalize hb0:best l (s.size:Int) l.length=b0;have HB0:=hide hb0;clear hb0;cases up
   ·have E:b0=sn:=HB0.out.symm.trans ((rK HR.out uk.out (by omega)).trans Ff.out)
    subst E;go_wp2;go_ret;exact⟨rfl,HB.out⟩
   ·by_cases hbx:b0=(s.size:Int)
    ·have E:b0=sn:=by rw[hbx];exact(zb HR.out uk.out (by omega) (HB0.out.trans hbx)).symm.trans Ff.out
     subst E;have hbb:(b0 == (s.size:Int))=true:=by rw[hbx];simp
     clear hbx;go_wp2;go_ret;exact⟨rfl,HB.out⟩
    ·have hbb:(b0 == (s.size:Int))=false:=aF.2 hbx
     have E:l.getD k 0=sn:=A4.symm.trans Ff.out;have HE:=hide E;clear E hbx;go_wp2_with fail;go_loop [10] (fun i=>∃j:Nat,j<=k/\i=.int .i64 j) (fun i=>k+1 - (intOf i).toNat)
     case atStart=>exact⟨0,aH _,rfl⟩
     case round =>
      obtain⟨j,hjk,rfl⟩:=hrel;have Cv:j<l.length:=by omega
      have c:=rU.out j Cv;by_cases hlt:j<k
      ·have hy:=uk.out.2.1 j hlt
       generalize l.getD j 0=y at c hy;go_wp2;go_round
       case rel=>exact⟨j+1,by omega,by go_num⟩
       case measure=>simp[intOf];omega
      ·obtain rfl:j=k:=by omega
       have hy:=uk.out.2.2 j (ak _) Cv;rw[HE.out]at c hy;go_wp2;go_ret;exact⟨rfl,HB.out⟩
theorem zl (s:ByteArray)(off:Int)(up:Bool)(w:World)(hs:s.size<=1000000)(hT:Lib.Utf8Tabs 1 2 w)(n k:Nat)(hend:gJ.Ends s n)(hc:Cut (bnd s n) (min (max off 0) ((s.size:Nat):Int)) k) :
 Calls prog 58 #[.string s,.int .i64 off,.bool up] w fun e w'=>e=.returned (.int .i64 (o8 (bnd s n) (min (max off 0) ((s.size:Nat):Int)) up k))/\Below w.heap.size w w':=by
 by_cases h1:off<0
 ·have e:min (max off 0) ((s.size:Nat):Int)=0:=by omega
  rw[e]at hc ⊢;exact MA s off up w hs hT n k hend h1 hc
 ·by_cases h2:(s.size:Int)<off
  ·have e:min (max off 0) ((s.size:Nat):Int)=(s.size:Int):=by omega
   rw[e]at hc ⊢;exact Jp s off up w hs hT n k hend h2 hc
  ·have e:min (max off 0) ((s.size:Nat):Int)=off:=by omega
   rw[e]at hc ⊢;exact MB s off up w hs hT n k hend (by omega) (by omega) hc
end Go.Proofs.YtnakejhohdbfdaaGreatDoor.mE
namespace Go.Proofs.YtnakejhohdbfdaaGreatDoor
open Go.RowKit jN Lay uS Go.Proofs.Tryz
theorem Ew {l:List Int}{z x:Int}(h:jf l z)(hx:l.contains x=true):0<=x/\x<=z:=by
 obtain⟨a1,a2⟩:=A8 h hx;have h0:=h.len;constructor
 ·rcases aS (cidx l x)with e | e
  ·rw[e,h.Pu]at a2;omega
  ·have:=uV h.sorted e a1;rw[h.Pu,a2]at this;omega
 ·rcases aA (show cidx l x<=l.length - 1 by omega)with e | e
  ·have h1:=uV h.sorted e (by omega)
   have h2:l.getD (l.length - 1) 0=z:=by rw[List.getD,h.last];rfl
   rw[a2,h2]at h1;omega
  ·rw[e,List.getD,h.last]at a2;simp at a2;omega
theorem Cw (l:List Int)(z:Int)(hr:jf l z)(x:Int)(g cap:Nat)(w:World)(hl:l.length<=1000002)(hrow:rowAt w g l.length l) :
 Calls prog 166 #[.slice (some ⟨g,0,none⟩) l.length cap,.int .i64 x] w fun e w'=>e=.returned (.tuple #[.int .i64 (cidx l x:Nat),.bool (l.contains x)])/\∃q,w'=w.drewN q:=by
 obtain⟨k,hk⟩:=p9 x l hr.sorted;have h:=mE.GW l z hr x k g cap w hk hl (fun j hj=>by rw[hrow j hj,qg]);rw[show cidx l x=k from uU hk];exact h
theorem MC (B:List Int)(z:Int)(hr:jf B z)(Br:List Int)(k:Nat)(h:Lay.jH B z Br k=true):Lay.jH B z Br (k+1)=(B.contains (nth Br k) && (!(nth Br k == 0) && (!(nth Br k == z) && decide ((if k=0 then 0 else nth Br (k - 1))<nth Br k))))/\0<=(if k=0 then 0 else nth Br (k - 1)):=by
 have h0:0<=(if k=0 then 0 else nth Br (k - 1)):=by
  split
  ·omega
  ·rename_i hk
   exact(Ew hr (sS h (k - 1) (by omega)).2.2).1
 refine⟨?_,h0⟩;rw[Lay.jH,h,Bool.true_and];cases hc:B.contains (nth Br k)
 ·simp
 ·have hm:=Ew hr hc
  generalize (if k=0 then 0 else nth Br (k - 1))=last at *;generalize nth Br k=x at *;by_cases h1:last<x
  ·by_cases h2:x<z
   ·have h3:¬x=0:=by omega
    have h4:¬x=z:=by omega
    simp[h1,h2,h3,h4]
   ·have h4:x=z:=by omega
    simp[h4]
  ·simp[h1]
theorem Uq (B:List Int)(z:Int)(hr:jf B z)(hz:0<=z/\z<=1000000)(Br:List Int)(v:Value)(gB cB:Nat)(w:World)(hl:B.length<=1000)(hrow:rowAt w gB B.length B)(hv:mA w v Br)(hBl:Br.length<=5000)(h7:s7 w 7)(h8:s7 w 8) :
 Calls prog 202 #[.slice (some ⟨gB,0,none⟩) B.length cB,v] w fun e w'=>∃x,e=.returned x/\((∃t u,x=.iface t u/\Lay.jH B z Br Br.length=false)\/(x=.nilIface/\Lay.jH B z Br Br.length=true))/\Fr [] w w':=by
 obtain⟨a,c,rfl,hBr⟩:=hv;obtain⟨t7,v7,c7⟩:=h7;obtain⟨t8,v8,c8⟩:=h8;have HBr:=hid hBr;have HS:=hid (fun x (w':World) (hf:Fr [] w w')=>Cw B z hr x gB cB w' (by omega) (hrow.fr hf af));have hB0:=hr.len;have e0:=hrow (B.length - 1) (by omega);rw[qg,show B.getD (B.length - 1) 0=z by rw[List.getD,hr.last];rfl]at e0;have HST:=hid (fun k h=>MC B z hr Br k h);have Jq:=hid (fun k (hk:k<=Br.length) h=>zf (B:=B) (z:=z) (Br:=Br) (k:=k) (j:=Br.length) hk h);obtain⟨nb,hnb⟩:∃nb,nb=B.length:=⟨_,rfl⟩;obtain⟨m,hm⟩:∃m,m=Br.length:=⟨_,rfl⟩;rw[<-hnb]at hl HS hB0 e0 ⊢;rw[<-hm]at hBl HBr Jq ⊢;obtain⟨hz0,hz1⟩:=hz;have HRR:=hid (show Lay.jH B z Br m=Lay.jH B z Br m from rfl);obtain⟨ok,hok⟩:∃ok,ok=Lay.jH B z Br m:=⟨_,rfl⟩;rw[<-hok]at Jq ⊢;have Fy:=hid hok;have hwr:IntKind.i64.wrap ((nb:Int) - 1)=((nb - 1:Nat):Int):=by rw[eT];omega
 have aaZ:(nb:Int) - 1=((nb - 1:Nat):Int):=by omega
 have aa0:((nb - 1:Nat):Int)<(nb:Int):=by omega
 clear hBr hrow hr hnb hm hok HRR;go_enter func202,ntmps202;go_wp2_with fail;go_quiet (fail);have Ep:=hid ((Fr.refl [] w).drewN nq);have f7:=Ep.out.cell c7 af;have f8:=Ep.out.cell c8 af;obtain⟨w0,hw0⟩:∃w0,w0=w.drewN nq:=⟨_,rfl⟩;rw[<-hw0]at Ep f7 f8 ⊢;clear hw0 e0 hwr aaZ;go_wp2_with fail;go_loopw [5,19] (fun aa kk wr=>∃k:Nat,kk=.int .i64 k/\k<=m/\aa=.int .i64 (if k=0 then 0 else nth Br (k - 1))/\Hid (Lay.jH B z Br k=true)/\Hid (Fr [] w wr)) (fun _ kk _=>m - (intOf kk).toNat)
 case atStart=>exact⟨0,rfl,aH _,rfl,hid rfl,Ep⟩
 case round =>
  obtain⟨k,rfl,hkm,rfl,Iv,yl⟩:=hrel;have g7:=yl.out.cell c7 af;have g8:=yl.out.cell c8 af;by_cases hkl:k<m
  ·have sX:(k:Int)<(m:Int):=by omega
   obtain⟨g,o,ha,hrw⟩:=HBr.out.resolve_left (by omega);have d0:=yl.out.cell (hrw k hkl) af;subst ha;obtain⟨st,h0⟩:=HST.out k Iv.out;have mN:=hid (show(if k+1=0 then 0 else nth Br (k+1 - 1))=nth Br k by rw[au (by omega),bX]);have HM:=hid (Jq.out (k+1) hkl);have zm:=hid (HS.out (nth Br k) wr yl.out);have vH:=hid st;generalize nth Br k=x at *;generalize (if k=0 then 0 else nth Br (k - 1))=last at *;generalize B.contains x=con at *;generalize cidx B x=ci at *;clear st hrw;cases con
   ·have HF:=hid (HM.out (by rw[vH.out];rfl))
    go_wp2_with (go_at_call 166;refine zm.out.mono ?_;rintro e w' ⟨rfl,mm,rfl⟩;have MD:=hid (yl.out.drewN mm);have i7:=MD.out.cell c7 af);go_ret;exact⟨_,rfl,.inl ⟨_,_,rfl,HF.out⟩,MD.out⟩
   ·by_cases hx0:x=0
    ·have HF:=hid (HM.out (by rw[vH.out,hx0];rfl))
     subst hx0;go_wp2_with (go_at_call 166;refine zm.out.mono ?_;rintro e w' ⟨rfl,mm,rfl⟩;have MD:=hid (yl.out.drewN mm);have i7:=MD.out.cell c7 af);go_ret;exact⟨_,rfl,.inl ⟨_,_,rfl,HF.out⟩,MD.out⟩
    ·have hx0':(x == 0)=false:=by simp[hx0]
     by_cases hxz:x=z
     ·have HF:=hid (HM.out (by rw[vH.out,hxz];simp))
      subst hxz;go_wp2_with (go_at_call 166;refine zm.out.mono ?_;rintro e w' ⟨rfl,mm,rfl⟩;have MD:=hid (yl.out.drewN mm);have i7:=MD.out.cell c7 af);go_ret;exact⟨_,rfl,.inl ⟨_,_,rfl,HF.out⟩,MD.out⟩
     ·have aeS:(x == z)=false:=by simp[hxz]
      by_cases hxl:x<=last
      ·have HF:=hid (HM.out (by rw[vH.out,aK (show ¬last<x by omega)];simp))
       go_wp2_with (go_at_call 166;refine zm.out.mono ?_;rintro e w' ⟨rfl,mm,rfl⟩;have MD:=hid (yl.out.drewN mm);have i8:=MD.out.cell c8 af);go_ret;exact⟨_,rfl,.inl ⟨_,_,rfl,HF.out⟩,MD.out⟩
      ·have HT2:=hid (show Lay.jH B z Br (k+1)=true by rw[vH.out,hx0',aeS,aZ (by omega)];rfl)
       go_wp2_with (go_at_call 166;refine zm.out.mono ?_;rintro e w' ⟨rfl,mm,rfl⟩;have MD:=hid (yl.out.drewN mm));go_roundw
       case rel=>exact⟨k+1,by go_num,by omega,by rw[mN.out],HT2,MD⟩
       case measure=>simp[intOf];omega
  ·obtain rfl:k=m:=by omega
   generalize (if k=0 then 0 else nth Br (k - 1))=last;go_wp2;go_ret;exact⟨_,rfl,.inr ⟨rfl,by rw[Fy.out];exact Iv.out⟩,yl.out⟩
theorem Cx (B:List Int)(z:Int)(hr:jf B z)(x:Int)(gB cB nB:Nat)(v1 v2:Value)(w:World)(hn:nB=B.length)(hl:nB<=1000)(hB:rowAt w gB nB B) :
 Calls prog 102 #[.agg #[.slice (some ⟨gB,0,none⟩) nB cB,v1,v2],.int .i64 x] w fun e w'=>e=.returned (.int .i64 (cidx B x:Nat))/\Fr [] w w':=by
 have HS:=hid (fun(X:World) (hf:Fr [] w X)=>Cw B z hr x gB cB X (by omega) (by rw[<-hn];exact hB.fr hf af));rw[<-hn]at HS;obtain⟨b,hb⟩:∃b,b=B.contains x:=⟨_,rfl⟩;rw[<-hb]at HS;obtain⟨k,hk⟩:∃k,k=cidx B x:=⟨_,rfl⟩;rw[<-hk]at HS ⊢;clear hb hk hB hn;go_enter func102,ntmps102;go_wp2_with (first | (go_at_call 166;refine(HS.out _ ((Fr.refl [] w).alloc _)).mono ?_;rintro e w1 ⟨rfl,q,rfl⟩));go_ret;exact⟨rfl,((Fr.refl [] w).alloc _).trans (jr _ _)⟩
def lnP (B V Wd E:List Int)(j:Nat):Ln :=
 let a:=cidx B (nth E j)
 let b:=cidx B (nth E (j+1))
 let o:=(mG (fun t=>nth V (a+t)) (b - a)).map (fun t=>t+a)
 ⟨nth E j,nth E (j+1),o,xs (fun k=>nth Wd k) o (b - a)⟩
def zn (B V Wd E:List Int)(k:Nat):List Ln:=(List.range k).map (lnP B V Wd E)
theorem ME (B V Wd E:List Int)(k:Nat):zn B V Wd E (k+1)=zn B V Wd E k++[lnP B V Wd E k]:=by
 rw[zn,dA,cJ];rfl
theorem Qk (B V Wd E:List Int)(k:Nat):(zn B V Wd E k).length=k:=by simp[zn]
theorem XK (V:List Int)(gV nV cV a b:Nat)(v0 v2:Value)(w:World)(hn:nV<=1000)(hab:a<=b)(hbn:b<=nV)(hV:rowAt w gV nV V)(hb:∀i,0<=nth V i/\nth V i<=1000) :
 Calls prog 229 #[.agg #[v0,.slice (some ⟨gV,0,none⟩) nV cV,v2],.int .i64 (a:Nat),.int .i64 (b:Nat)] w fun e w'=>∃go,e=.returned (.slice (some ⟨go,0,none⟩) (b - a) (b - a))/\w'.ownsRow w.heap.size 3 1 (.slice (some ⟨go,0,none⟩) (b - a) (b - a)) (b - a) (gz ((mG (fun t=>nth V (a+t)) (b - a)).map (fun t=>t+a)))/\Fr [] w w':=by
 have h:=T_ V gV nV cV a (b - a) v0 v2 w hn (by omega) hV hb;rw[show a+(b - a)=b by omega]at h;exact h
theorem lX.snoc {w w':World}{Bs U U' n:Nat}{hs:List Value}{Ls:List Ln}{l:Ln}{vO vX:Value}(h:lX w Bs U hs Ls)(hn:n=Ls.length)(hl:hs.length=n * 4)(hU:U<=U')(hf:∀e v m xs,(e=3\/e=2)->(∀g,v.ownBlock=some g->g<U)->w.ownsRow Bs e 1 v m xs->w'.ownsRow Bs e 1 v m xs)
 (hO:w'.ownsRow Bs 3 1 vO l.o.length (gz l.o)) (hX:w'.ownsRow Bs 2 1 vX l.x.length (gu l.x)) (hgO:∀g,vO.ownBlock=some g->g<U') (hgX:∀g,vX.ownBlock=some g->g<U'):lX w' Bs U' (hs++[.int .i64 l.f,.int .i64 l.t,vO,vX]) (Ls++[l]):=by
 intro j x hj
 rcases bT j n with hlt | heq | hgt
 ·rw[aJ (by omega)]at hj
  obtain⟨a,b,h1,h2,h3,h4,h5⟩:=((h.fr hf).mono hU) j x hj;refine⟨a,b,?_,?_,?_,?_,h5⟩
  ·rw[aJ (by omega)];exact h1
  ·rw[aJ (by omega)];exact h2
  ·rw[aJ (by omega)];exact h3
  ·rw[aJ (by omega)];exact h4
 ·subst heq
  rw[hn,aI (ak _),bY]at hj;obtain rfl:l=x:=bW hj;refine⟨vO,vX,?_,?_,?_,?_,hO,hX,hgO,hgX⟩
  ·rw[aI (by omega),show j * 4 - hs.length=0 by omega];rfl
  ·rw[aI (by omega),show j * 4+1 - hs.length=1 by omega];rfl
  ·rw[aI (by omega),show j * 4+2 - hs.length=2 by omega];rfl
  ·rw[aI (by omega),show j * 4+3 - hs.length=3 by omega];rfl
 ·rw[bq (by rw[aG];simp;omega)]at hj
  cases hj
end Go.Proofs.YtnakejhohdbfdaaGreatDoor

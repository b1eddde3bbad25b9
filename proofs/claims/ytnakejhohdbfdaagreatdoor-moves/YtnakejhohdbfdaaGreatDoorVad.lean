import Derived.Test.YtnakejhohdbfdaaGreatDoorVac
set_option maxHeartbeats 4000000
set_option maxRecDepth 10000
namespace Go.Proofs.YtnakejhohdbfdaaGreatDoor
open Go.RowKit jN Lay Go.Proofs.Tryz
theorem uO (l:List Nat)(a x:Nat):(gz l).set a (.int .i64 (x:Nat))=gz (l.set a x):=by simp[gz,List.map_set]
theorem Gm (p:Nat->Bool)(X:List Nat)(i:Nat):jS p (X.drop (i+jS p (X.drop i)))=0:=by
 by_cases h:jS p (X.drop i)<(X.drop i).length
 ·have h1:=tX p _ h
  rw[b_]at h1;rw[bu]at h;rw[uK X _ (by omega),jS,au (by rw[h1];exact aE)]
 ·rw[bu]at h
  rw[dZ (by omega)];rfl
theorem LC (p:Nat->Bool)(X:List Nat)(i d:Nat)(h:d<jS p (X.drop i)):p (fX X (i+d))=true:=by
 have hl:=uL p (X.drop i);rw[bu]at hl;refine wN p (X.drop i) _ ?_;have e:fX X (i+d)=fX ((X.drop i).take (jS p (X.drop i))) d:=by rw[fX,fX,dG h,b_]
 rw[e];exact kK (by rw[aP,bu];omega)
theorem BQ (p:Nat->Bool)(X:List Nat)(i:Nat)(h:i+jS p (X.drop i)<X.length):p (fX X (i+jS p (X.drop i)))=false:=by
 have:=tX p (X.drop i) (by rw[bu];omega)
 rwa [b_]at this
theorem LF (p:Nat->Bool)(X:List Nat)(i j:Nat)(hi:i<=j)(hj:j<X.length):fX (turn p (X.take i)++X.drop i) j=fX X j:=by
 have h1:(turn p (X.take i)).length=i:=by rw[(kX p _).length_eq,aP];omega
 rw[fX,aI (by omega),h1,b_,show i+(j - i)=j by omega]
theorem TN (V:List Int)(n g cap:Nat)(w:World)(hn0:0<n)(hn:n<=1000)(hV:rowAt w g n V)(hb:∀i,0<=nth V i/\nth V i<=1000) :
 Calls prog 165 #[.slice (some ⟨g,0,none⟩) n cap] w fun e w'=>∃go c,e=.returned (.slice (some ⟨go,0,none⟩) n c)/\w'.ownsRow w.heap.size 3 1 (.slice (some ⟨go,0,none⟩) n c) n (gz (mG (nth V) n))/\Fr [] w w':=by
 obtain⟨i0,hi,hz0,hz1,hz2⟩:=e_ info3;have HV:=hid hV;have HB:=hid hb;have HT:=hid (xR (nth V) 1000 (by omega) (fun k=>(hb k).2));obtain⟨R,hR⟩:∃R,R=mG (nth V) n:=⟨_,rfl⟩;rw[<-hR];have HR:=hid hR;clear hV hb hR;go_enter func165,ntmps165;go_wp2_with fail;go_loopw [3,4,5] (fun v t i wr=>∃k:Nat,k<=n/\i=.int .i64 k/\t=.int .i64 (kD (nth V) k)/\Hid (wr.ownsRow w.heap.size 3 1 v k (gz (List.range k)))/\Hid (Fr [] w wr)) (fun _ _ i _=>n - (intOf i).toNat)
 case atStart=>exact⟨0,aH _,rfl,rfl,hid (eY _ _ _ _),hid (Fr.refl _ _)⟩
 case round =>
  obtain⟨k,hk,rfl,rfl,HO,HF⟩:=hrel;by_cases hkn:k<n
  ·have c1:=(HV.out.fr HF.out af) k hkn
   have sX:(k:Int)<(n:Int):=by omega
   have HT1:=hid (show kD (nth V) (k+1)=max (kD (nth V) k) (nth V k)from rfl);generalize kD (nth V) k=t at HT1;have iG:=hid (HO.out.alloc (.cells #[.int .i64 (k:Nat)] 3));have hsz:=HF.out.size;have HVk:=hid (fun(w':World) (hf:Fr [] w w')=>(HV.out.fr hf af) k hkn);generalize nth V k=y at c1 HT1 HVk;go_wp2_with (at_builtin;refine eV _ rfl _ _ 22 rfl w.heap.size 3 i0 _ 1 8 underlying22 hi hz0 hz1 hz2 rfl (by decide) _ _ _ rfl iG.out _ 1 1 [.int .i64 k] rfl rfl (iC _ _ _ _ (by simp)) (one_cell _) (by unfold maxLen;omega) (by omega) (by simp;omega) ?_);intro v' w3 gM hgrow hnil;have iO:=hid ((HF.out.alloc _).grown hgrow (fun x h=>(iG.out.lt x h).1));have c3:=HVk.out w3 iO.out;have k9:=hid (show w3.ownsRow w.heap.size 3 1 v' (k+1) (gz (List.range (k+1))) by rw[I7,<-oz];exact gM);clear gM hgrow hnil c1 HVk;go_wp2_with (go_at_call 87;refine(yS _ _ _).mono ?_;rintro e w' ⟨rfl,rfl⟩);go_roundw
   case rel=>exact⟨k+1,by omega,by go_num,by rw[HT1.out],k9,iO⟩
   case measure=>simp[intOf];omega
  ·obtain rfl:k=n:=by omega
   obtain⟨go,co,hvo⟩:=fR hn0 HO.out;subst hvo;have ht:=HT.out k;have HR1:=hid (show R=wL (nth V) 1 (kD (nth V) k).toNat (List.range k)from HR.out);generalize kD (nth V) k=tt at ht HR1;obtain⟨t,rfl⟩:=Int.eq_ofNat_of_zero_le ht.1;rw[cH]at HR1;have ht2:t<=1000:=by omega
   clear ht HR HT;go_wp2_with fail;go_loopw [6] (fun l wx=>∃(m:Nat) (X:List Nat),l=.int .i64 m/\m<=t/\Hid (wx.ownsRow w.heap.size 3 1 (.slice (some ⟨go,0,none⟩) k co) k (gz X))/\Hid (Fr [] w wx)/\Hid (X.Perm (List.range k))/\Hid (wL (nth V) 1 m X=R)) (fun l _=>(intOf l).toNat)
   case atStart=>exact⟨t,List.range k,rfl,ak _,HO,HF,hid (List.Perm.refl _),hid HR1.out.symm⟩
   case round =>
    obtain⟨m,X,rfl,hm,HX,tG,HP,Ws⟩:=hrel;have hXl:X.length=k:=by rw[HP.out.length_eq,List.length_range]
    have O_:=hid hXl;have aaj:=hid (fun j (hj:j<k)=>bS.1 (HP.out.mem_iff.1 (kK (l:=X) (k:=j) (by omega))));clear hXl;by_cases hm0:0<m
    ·have hmI:(1:Int)<=(m:Int):=by omega
     obtain⟨p,hp⟩:∃p,p=deep (nth V) m:=⟨_,rfl⟩;have HPp:=hid (fun x=>show p x=decide ((m:Int)<=nth V x) by rw[hp];rfl)
     have aec:=hid (show wL (nth V) 1 (m - 1) (turn p X)=R by
      have h:=Ws.out
      rw[show m=(m - 1)+1 by omega,wL,show 1+(m - 1)=m by omega,<-hp]at h
      exact h)
     clear hp Ws;go_wp2_with fail;go_loopw [7] (fun ii wy=>∃(i:Nat),ii=.int .i64 i/\i<=k/\Hid (wy.ownsRow w.heap.size 3 1 (.slice (some ⟨go,0,none⟩) k co) k (gz (turn p (X.take i)++X.drop i)))/\Hid (Fr [] w wy)/\Hid (shut p (X.take i)\/jS p (X.drop i)=0)) (fun ii _=>k - (intOf ii).toNat)
     case atStart=>exact⟨0,rfl,aH _,HX,tG,hid (.inl (.inl rfl))⟩
     case round =>
      obtain⟨i,rfl,hik,HY,Pa,Te⟩:=hrel;by_cases ai5:i<k
      ·have ai6:(i:Int)<(k:Int):=by omega
       obtain⟨r,hr⟩:∃r,r=jS p (X.drop i):=⟨_,rfl⟩;have hrk:i+r<=k:=by have h:=uL p (X.drop i);rw[bu,O_.out]at h;omega
       have HRR:=hid hr;clear hr
       have HYc:=hid (fun j (h1:i<=j) (h2:j<k)=>show wr.cell? ⟨go,j,none⟩=some (.int .i64 (fX X j:Nat)) by
        have hl:(turn p (X.take i)++X.drop i).length=k:=by rw[aG,(kX p _).length_eq,<-aG,cu,O_.out]
        rw[HY.out.cellAt j (by omega),kJ (by omega),LF p X i j h1 (by rw[O_.out];exact h2)])
       go_wp2_with fail;go_loop [8] (fun jj=>∃d:Nat,d<=r/\jj=.int .i64 (i+d:Nat)) (fun jj=>i+r - (intOf jj).toNat)
       case atStart=>exact⟨0,aH _,rfl⟩
       case round =>
        obtain⟨d,hd,rfl⟩:=hrel;by_cases hdr:d<r
        ·have hpx:=HPp.out (fX X (i+d))
         rw[LC p X i d (by rw[<-HRR.out];exact hdr)]at hpx;have c1:=HYc.out (i+d) (by omega) (by omega);have hxk:=aaj.out (i+d) (by omega);have c2:=(HV.out.fr Pa.out af) (fX X (i+d)) hxk;have Io:((i+d:Nat):Int)<(k:Int):=by omega
         have hmx:(m:Int)<=nth V (fX X (i+d)):=dz hpx.symm;clear hpx;generalize nth V (fX X (i+d))=y at c2 hmx;generalize fX X (i+d)=x at c1 c2 hxk;generalize hj:i+d=j at *;have HJ:=hid hj;have Xm:(x:Int)<(k:Int):=by omega
         clear hj;go_wp2;go_round
         case rel=>exact⟨d+1,by omega,by rw[<-eC,HJ.out];go_num⟩
         case measure=>simp[intOf];have:=HJ.out;omega
        ·obtain rfl:d=r:=by omega
         have hdl:=hid (I5 p X i (by rw[O_.out];omega) Te.out);rw[<-HRR.out]at hdl;have HZ0:=HY;have HYL:=hid (show(turn p (X.take i)++X.drop i).length=k by rw[aG,(kX p _).length_eq,<-aG,cu,O_.out]);generalize turn p (X.take i)++X.drop i=Y at HZ0 hdl HYL;by_cases hjk:i+d<k
         all_goals (
          first
          | (have c1:=HYc.out (i+d) (by omega) hjk
             have hpx:=HPp.out (fX X (i+d))
             have hpo:=BQ p X i (by rw[<-HRR.out,O_.out];exact hjk)
             rw[<-HRR.out]at hpo
             rw[hpo]at hpx
             have hmx:¬(m:Int)<=nth V (fX X (i+d)):=of_decide_eq_false hpx.symm
             have hxk:=aaj.out (i+d) hjk
             have c2:=(HV.out.fr Pa.out af) (fX X (i+d)) hxk
             have yZ:=hid hpo
             clear hpx hpo
             generalize nth V (fX X (i+d))=y at c2 hmx
             generalize hxx:fX X (i+d)=x at c1 c2 hxk
             clear hxx
             have Xm:(x:Int)<(k:Int):=by omega
             have Io:((i+d:Nat):Int)<(k:Int):=by omega)
          | (have Io:¬((i+d:Nat):Int)<(k:Int):=by omega
             have aak:decide (((i+d:Nat):Int)<(k:Int))=false:=aK Io
             have yZ:Hid True:=trivial)
          generalize hj:i+d=j at *
          have HJ:=hid hj
          clear hj
          go_wp2_with fail
          have hjL:j<=k:=by omega
          have hij:i<=j:=by have:=HJ.out;omega
          go_loopw [9,10] (fun aa bb wz=>∃q:Nat,aa=.int .i64 (i+q:Nat)/\bb=.int .i64 ((j:Int) - 1 - q)/\i+2 * q<=j/\Hid (wz.ownsRow w.heap.size 3 1 (.slice (some ⟨go,0,none⟩) k co) k (gz (rD Y i j q)))/\Hid (Fr [] w wz)) (fun aa bb _=>(intOf bb - intOf aa+1).toNat)
          case atStart=>exact⟨0,rfl,by simp,by omega,HZ0,Pa⟩
          case round =>
               obtain⟨q,rfl,rfl,hq,HZ,Ay⟩:=hrel
               by_cases hab:i+2 * q+1<j
               ·have hl:=uM Y i j q
                rw[HYL.out]at hl
                have c1:=HZ.out.cellAt (i+q) (by omega)
                have c2:=HZ.out.cellAt (j - 1 - q) (by omega)
                rw[kJ (by omega)]at c1 c2
                have f1:=HZ.out.frozenAt (i+q)
                have f2:=HZ.out.frozenAt (j - 1 - q)
                have HS:=hid (show rD Y i j (q+1)=((rD Y i j q).set (i+q) (fX (rD Y i j q) (j - 1 - q))).set (j - 1 - q) (fX (rD Y i j q) (i+q))from rfl)
                generalize fX (rD Y i j q) (i+q)=xa at *
                generalize fX (rD Y i j q) (j - 1 - q)=xb at *
                have Xn:(j:Int) - 1 - q=((j - 1 - q:Nat):Int):=by omega
                have h1:((i+q:Nat):Int)<((j - 1 - q:Nat):Int):=by omega
                have h2:((i+q:Nat):Int)<(k:Int):=by omega
                have h3:((j - 1 - q:Nat):Int)<(k:Int):=by omega
                have hne:i+q≠j - 1 - q:=by omega
                rw[Xn]
                have HQ:=hid (show(i+(q+1)=(i+q)+1)/\((j:Int) - 1 - ((q+1:Nat):Int)=((j - 1 - q:Nat):Int) - 1)/\i+2 * (q+1)<=j from⟨by omega,by omega,by omega⟩)
                generalize i+q=aN at *
                generalize j - 1 - q=bN at *
                clear Xn
                go_wp2_with fail
                go_region
                go_wp2
                go_roundw
                case rel =>
                 refine⟨q+1,by rw[HQ.out.1];go_num,by rw[HQ.out.2.1],HQ.out.2.2,?_,?_⟩
                 ·rw[HS.out,<-uO,<-uO]
                  exact hid ((HZ.out.stored aN _).1.stored bN _).1
                 ·have e1:=(HZ.out.stored aN (.int .i64 (xb:Nat)))
                  have e2:=(e1.1.stored bN (.int .i64 (xa:Nat)))
                  exact hid (((Ay.out.grown e1.2 (fun x h=>by cases h;exact(fZ HZ.out).1)).grown e2.2 (fun x h=>by cases h;exact(fZ HZ.out).1)).drew)
                case measure=>simp[intOf];have:=HQ.out;omega
               ·have HD:=hid (I6 Y i j q hij (by rw[HYL.out];exact hjL) hq (by omega))
                have Xn:¬((i+q:Nat):Int)<(j:Int) - 1 - q:=by omega
                have HW:=hid (show wr.ownsRow w.heap.size 3 1 (.slice (some ⟨go,0,none⟩) k co) k (gz (turn p (X.take j)++X.drop j)) by rw[<-hdl.out,<-HD.out];exact HZ.out)
                by_cases hji:i<j
                ·have aee:(i:Int)<(j:Int):=by omega
                 have hj1:(j:Int) - 1+1=j:=by omega
                 generalize ((i+q:Nat):Int)=aa at *
                 generalize (j:Int) - 1 - q=bb at *
                 go_wp2
                 go_roundw
                 case rel=>exact⟨j,by first | rfl | (rw[hj1];rfl) | go_num,by omega,HW,Ay,hid (.inr (by rw[<-HJ.out,HRR.out];exact Gm p X i))⟩
                 case measure=>simp[intOf];omega
                ·have DI:j=i:=by omega
                 have aee:¬(i:Int)<(j:Int):=by omega
                 have hpi:p (X[i]?.getD 0)=false:=by
                  have h0:=BQ p X i (by rw[<-HRR.out,O_.out];have:=HJ.out;omega)
                  rw[<-HRR.out,HJ.out,DI]at h0
                  exact h0
                 have hsn:=LB p X i (by rw[O_.out];omega) hpi
                 have HW2:=hid (show wr.ownsRow w.heap.size 3 1 (.slice (some ⟨go,0,none⟩) k co) k (gz (turn p (X.take (i+1))++X.drop (i+1))) by rw[hsn.2,<-DI];exact HW.out)
                 have Ff:=hid hsn.1
                 clear hsn hpi DI
                 generalize ((i+q:Nat):Int)=aa at *
                 generalize (j:Int) - 1 - q=bb at *
                 go_wp2
                 go_roundw
                 case rel=>exact⟨i+1,by go_num,by omega,HW2,Ay,hid (.inl Ff.out)⟩
                 case measure=>simp[intOf];omega)
      ·obtain rfl:i=k:=by omega
       have HW:=hid (show wr.ownsRow w.heap.size 3 1 (.slice (some ⟨go,0,none⟩) i co) i (gz (turn p X)) by
        have h:=HY.out
        rw[d_ (by rw[O_.out];exact ak _),dZ (by rw[O_.out];exact ak _),cD]at h
        exact h)
       have hm1:(m:Int) - 1=((m - 1:Nat):Int):=by omega
       go_wp2;go_roundw
       case rel=>exact⟨m - 1,turn p X,by first | rfl | rw[hm1],by omega,HW,Pa,hid ((kX p X).trans HP.out),aec⟩
       case measure=>simp[intOf];omega
    ·obtain rfl:m=0:=by omega
     go_wp2;go_ret;exact⟨go,co,rfl,by rw[<-Ws.out];exact HX.out,tG.out⟩
end Go.Proofs.YtnakejhohdbfdaaGreatDoor

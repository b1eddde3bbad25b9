import Derived.Test.YtnakejhohdbfdacGreatDoorMam
import Derived.Test.YtnakejhohdbfdacGreatDoorMbf
import Derived.Test.YtnakejhohdbfdacGreatDoorMbg
set_option maxHeartbeats 4000000
set_option maxRecDepth 100000
set_option linter.unusedSimpArgs false
namespace Go.Proofs.YtnakejhohdbfdacGreatDoor.Cls.Wr
open Go.RowKit Dec BA pS Lay j9 Go.Proofs.Tryz
theorem uf {l:List Int}{j:Nat}(h:j<l.length):(iS l)[j]?=some (.int .i64 (l.getD j 0)):=by simp[iS,List.getD,h]
end Go.Proofs.YtnakejhohdbfdacGreatDoor.Cls.Wr
namespace Go.Proofs.YtnakejhohdbfdacGreatDoor.Cls.Dc
open Go.RowKit Dec BA pS Lay j9 Go.Proofs.Tryz
def QI (c:Int):Bool:=c == 8 || gone c || mh c || c == 22
theorem Jy (c:Int)(w:World):Calls prog 153 #[.int .i64 c] w fun e w'=>e=.returned (.bool (QI c))/\w'=w:=by
 have H1:=hide (xO c w);have H2:=hide (Ci c w);obtain⟨r,hr⟩:∃r,r=QI c:=⟨_,rfl⟩;rw[<-hr];by_cases h8:c=8
 ·subst h8
  have HR:=hide (show r=true by rw[hr];rfl);clear hr H1 H2;go_enter func153,ntmps153;go_wp2;go_ret;rw[HR.out];exact⟨rfl,rfl⟩
 ·have h8b:(c == 8)=false:=by simpa using h8
  have hr2:r=(gone c || (mh c || c == 22)):=by rw[hr,QI,h8b,Bool.false_or,Bool.or_assoc]
  have HR:=hide hr2;clear hr hr2;generalize gone c=g1 at *;generalize (mh c || c == 22)=g2 at *;cases g1 <;> cases g2
  all_goals (
   go_enter func153,ntmps153
   go_wp2_with (first
    | (go_at_call 196;refine H1.out.mono ?_;rintro e w' ⟨rfl,rfl⟩)
    | (go_at_call 198;refine H2.out.mono ?_;rintro e w' ⟨rfl,rfl⟩))
   go_ret
   rw[HR.out]
   exact⟨rfl,rfl⟩)
def GX (r na wi:Int):Int:=if QI (jg.look jg.iY r)then 0 else if 4352<=r then wi else na
theorem GY (r na wi:Int)(w:World)(h3:TabAt w 1 jg.jv)(h4:TabAt w 2 jg.jh) :
 Calls prog 122 #[.int .i32 r,.agg #[.int .i64 na,.int .i64 wi]] w fun e w'=>e=.returned (.int .i64 (GX r na wi))/\Below w.heap.size w w':=by
 obtain⟨w1,hw1⟩:∃w1,w1=w.alloc (.cells #[.int .i64 na,.int .i64 wi] 56):=⟨_,rfl⟩;have HB1:=hide (show Below w.heap.size w w1 by rw[hw1];exact(fN _ w).alloc (au _) _);have lT:=hide (show w1.heap[w.heap.size]?=some (.cells #[.int .i64 na,.int .i64 wi] 56 (0,0)) by rw[hw1];exact fR w _);have Xt:=hide (tD r w1 (h3.below (h3.lt (by decide)) HB1.out) (h4.below (h4.lt (by decide)) HB1.out));obtain⟨x,hx⟩:∃x,x=GX r na wi:=⟨_,rfl⟩;rw[<-hx];unfold GX at hx;generalize jg.look jg.iY r=c at *;have afl:=hide (fun(Y:World)=>Jy c Y);have HX:=hide hx;clear hx h3 h4;go_enter func122,ntmps122;go_wp2_with fail;rw[<-hw1];clear hw1;refine Xt.out.mono ?_;rintro e w2 ⟨rfl,hb2⟩;have HB2:=hide (HB1.out.trans (hb2.mono HB1.out.size));have c0:w2.cell? ⟨w.heap.size,0,none⟩=some (.int .i64 na):=by
  have h:=(hb2.block w.heap.size (by have:=(aC.1 lT.out).1;exact this)).trans lT.out;simp[World.cell?,h]
 have c1:w2.cell? ⟨w.heap.size,1,none⟩=some (.int .i64 wi):=by
  have h:=(hb2.block w.heap.size (by have:=(aC.1 lT.out).1;exact this)).trans lT.out;simp[World.cell?,h]
 clear hb2 Xt;go_wp2_with fail;refine(afl.out w2).mono ?_;rintro e w3 ⟨rfl,rfl⟩;generalize QI c=u at *;cases u
 ·by_cases hr:4352<=r
  ·have hx:=HX.out
   rw[ay aG,aE hr]at hx;have vI:=hide hx;clear hx HX;go_wp2;go_ret;rw[vI.out];exact⟨rfl,HB2.out⟩
  ·have hx:=HX.out
   rw[ay aG,ay hr]at hx;have vI:=hide hx;have hrd:decide (4352<=r)=false:=by simp;omega
   clear hx HX;go_wp2;go_ret;rw[vI.out];exact⟨rfl,HB2.out⟩
 ·have hx:=HX.out
  rw[aE rfl]at hx;have vI:=hide hx;clear hx HX;go_wp2;go_ret;rw[vI.out];exact⟨rfl,HB2.out⟩
def Aq (s:ByteArray)(na wi:Int)(k:Nat):List Int:=(List.range k).map fun j=>GX (rune s j) na wi
theorem Fb (s:ByteArray)(na wi:Int)(k:Nat):(Aq s na wi k).length=k:=by simp[Aq]
theorem QJ (s:ByteArray)(na wi:Int)(k:Nat):iS (Aq s na wi k)++[.int .i64 (GX (rune s k) na wi)]=iS (Aq s na wi (k+1)):=by
 simp[Aq,iS,eS]
theorem Fc (s:ByteArray)(na wi:Int)(w:World)(hs:s.size<=1000000)(h3:TabAt w 1 jg.jv)(h4:TabAt w 2 jg.jh) :
 Calls prog 85 #[.string s,.agg #[.int .i64 na,.int .i64 wi]] w fun e w'=>∃n v,Dec.Ends s n/\e=.returned v/\w'.ownsRow w.heap.size 3 1 v n (iS (Aq s na wi n))/\Below w.heap.size w w':=by
 obtain⟨i0,hi,hz0,hz1,hz2⟩:=fY info3;have HT3:=hide (fun(A:World) (hb:Below w.heap.size w A)=>h3.below (h3.lt (by decide)) hb);have A8:=hide (fun(A:World) (hb:Below w.heap.size w A)=>h4.below (h4.lt (by decide)) hb);obtain⟨w1,hw1⟩:∃w1,w1=w.alloc (.cells #[.int .i64 na,.int .i64 wi] 56):=⟨_,rfl⟩;have HB1:=hide (show Below w.heap.size w w1 by rw[hw1];exact(fN _ w).alloc (au _) _);have lT:=hide (show w1.heap[w.heap.size]?=some (.cells #[.int .i64 na,.int .i64 wi] 56 (0,0)) by rw[hw1];exact fR w _);have hsz1:w1.heap.size=w.heap.size+1:=by rw[hw1,fD]
 have NO:=hide hsz1;have HW1:=hide hw1;clear h3 h4;go_enter func85,ntmps85;go_wp2_with fail;rw[<-hw1];clear hw1 hsz1;go_loopw [5] (fun v wr=>∃k p:Nat,p<=s.size/\k<=p/\wr.heap[(w.heap.size+1)]?=some (.stringIter s p)/\Hid (p=pos s k)/\Hid (∀j,j<k->pos s j<s.size)/\Hid (wr.ownsRow ((w.heap.size+1)+1) 3 1 v k (iS (Aq s na wi k)))/\Hid (Below (w.heap.size+1) w1 wr)) (fun _ wr=>s.size - wr.iterPos (w.heap.size+1))
 case atStart=>exact⟨0,0,aN _,au _,by have h:=ig w1 s 0;rw[NO.out]at h;exact h,hide rfl,hide (fun j hj=>absurd hj (cu _)),hide (fQ _ _ _ _),hide ((fN _ _).alloc (by rw[NO.out];exact au _) _)⟩
 case round =>
  obtain⟨k,p,hp,hkp,hit,HP,HJ,HO,HB⟩:=hrel;by_cases hlt:p<s.size
  ·have hw1:=width_pos s p
   have hw2:=width_le s p hlt;have hnx:=fun ty=>gZ (P:=prog) wr (w.heap.size+1) s p ty hit hlt
   have HR:Hid (((Utf8.decode s p).1:Nat)=rune s k):=by rw[HP.out];rfl
   have HQ:Hid (p+(Utf8.decode s p).2=pos s (k+1)):=by rw[HP.out];rfl
   generalize (Utf8.decode s p).1=r at hnx HR;generalize (Utf8.decode s p).2=n at hnx HQ hw1 hw2;have hJ2:Hid (∀j,j<k+1->pos s j<s.size):=by
    intro j hj
    rcases aH (aP hj)with h1 | h1
    ·exact HJ.out j h1
    ·rw[h1,<-HP.out];exact hlt
   have HI:=hide (iD wr (w.heap.size+1) s p (p+n) hit);have yI:=hide (iB HB.out (au _) s (p+n));have DN:=hide (ownsRow_iterAt HO.out (bP _) s (p+n));have HIT:=hide hit;generalize wr.iterAt (w.heap.size+1) s (p+n)=ZM at hnx HI yI DN;have hwi:(w.heap.size+1)<ZM.heap.size:=(aC.1 HI.out).1;have nD:=hide ((yI.out.block w.heap.size (by omega)).trans lT.out);have d0:ZM.cell? ⟨w.heap.size,0,none⟩=some (.int .i64 na):=by have h:=nD.out;simp[World.cell?,h]
   have d1:ZM.cell? ⟨w.heap.size,1,none⟩=some (.int .i64 wi):=by have h:=nD.out;simp[World.cell?,h]
   have GZ:=hide (HB1.out.trans (yI.out.mono (by omega)));have Yw:=hide (GY (r:Nat) na wi ZM (HT3.out ZM GZ.out) (A8.out ZM GZ.out));obtain⟨y,hy⟩:∃y,y=GX ((r:Nat):Int) na wi:=⟨_,rfl⟩;rw[<-hy]at Yw;have HY:=hide hy;clear hit HO hy;go_wp2_with fail;refine Yw.out.mono ?_;rintro e w4 ⟨rfl,hb4⟩;have HI4:=hide ((hb4.block (w.heap.size+1) hwi).trans HI.out);have FL:=hide (yI.out.trans (hb4.mono (by omega)));have oI:=hide ((oM DN.out hb4).alloc (.cells #[.int .i64 y] 3));have Uw:(w.heap.size+1)<w4.heap.size:=aM hwi hb4.size;have HBA:=hide (FL.out.alloc (by omega) (.cells #[.int .i64 y] 3));clear hb4 Yw d0 d1;go_wp2_with (at_builtin;refine fV _ rfl _ _ 32 rfl ((w.heap.size+1)+1) 3 i0 _ 1 8 underlying32 hi hz0 hz1 hz2 rfl (by decide) _ _ _ rfl oI.out ⟨w4.heap.size,0,none⟩ 1 1 [.int .i64 y] rfl rfl (iF _ _ _) (one_cell _) (by unfold maxLen;omega) (by omega) (by simp;omega) ?_);intro v' w5 qi hgrow hnil;have rK:Hid (w5.ownsRow ((w.heap.size+1)+1) 3 1 v' (k+1) (iS (Aq s na wi (k+1)))):=by
    rw[<-QJ,<-HR.out,<-HY.out];exact qi
   have NP:Hid (Below (w.heap.size+1) w1 w5):=HBA.out.grown hgrow (by simp;omega) (by intro g hg;have:=(oI.out.lt g hg).1;omega);have Wa:Hid (w5.heap[(w.heap.size+1)]?=some (.stringIter s (p+n))):=by
    rw[hgrow.block _ (by simp;omega) (fun e=>by have:=(oI.out.lt _ e.symm).1;omega)];exact(gC _ _ _ Uw).trans HI4.out
   clear qi hgrow hnil oI HBA;go_wp2;go_roundw
   case rel=>exact⟨k+1,p+n,by omega,by omega,Wa.out,HQ,hJ2,rK,NP⟩
   case measure=>rw[gJ Wa.out,gJ HIT.out];omega
  ·have hnx:=fun ty=>gN (P:=prog) wr (w.heap.size+1) s p ty hit hlt
   have HE:Hid (Dec.Ends s k):=⟨by rw[<-HP.out];omega,HJ.out⟩;have jO:=hide (iU HO.out (show w.heap.size<=(w.heap.size+1)+1 by omega));have HB2:=hide (HB1.out.trans (HB.out.mono (by omega)));clear hit;go_wp2;go_ret;exact⟨k,_,HE.out,rfl,jO.out,HB2.out⟩
theorem MI {T e:TypeId}{B b:Nat}{bs:List Value}{W W':World}(h:Lib.IsBuilderF T e B b bs W)(hb:Below W.heap.size W W'):Lib.IsBuilderF T e B b bs W':=by
 have key:∀ {p:Value},Lib.BuilderAtF T e B b p bs W->Lib.BuilderAtF T e B b p bs W':=fun h=>by
  have hlt:=h.lt;obtain⟨hB,v,hv,hown,hne⟩:=h;exact⟨hB,v,(hb.block b hlt).trans hv,hown.kept (row:=none) ⟨hb.os,hb.tape,hb.output,hb.size,fun k hk _=>hb.block k hk⟩ (Classical.em _),hne⟩
 exact h.elim (fun x=>.inl (key x)) (fun x=>.inr (key x))
def ZN (r:Int):Int:=if jg.look jg.iY r=10 then 32 else r
def SK (s:ByteArray):Nat->List UInt8
 | 0=>[]
 | k+1=>SK s k++Lib.encodeRune (ZN (rune s k))
def cln (s:ByteArray)(n:Nat):ByteArray:=⟨(SK s n).toArray⟩
theorem Ux (s:ByteArray)(p:Nat):((Utf8.decode s p).1:Int)<=2147483647:=by
 have:=decode_le s p;omega
theorem zA (s:ByteArray)(n:Nat)(w:World)(hs:s.size<=1000000)(hend:Dec.Ends s n)(h3:TabAt w 1 jg.jv)(h4:TabAt w 2 jg.jh) :
 Calls prog 43 #[.string s] w fun e w'=>e=.returned (.string (cln s n))/\Below w.heap.size w w':=by
 have HT3:=hide (fun(A:World) (hb:Below w.heap.size w A)=>h3.below (h3.lt (by decide)) hb);have A8:=hide (fun(A:World) (hb:Below w.heap.size w A)=>h4.below (h4.lt (by decide)) hb);have HE:=hide hend;have HEJ:=hide (fun k (h:k<n)=>hend.2 k h);have HEN:=hide hend.1;clear h3 h4 hend;go_enter func43,ntmps43;go_wp2;go_loopw [] (fun wr=>∃k p:Nat,p<=s.size/\k<=p/\wr.heap[w.heap.size+1]?=some (.stringIter s p)/\Hid (p=pos s k)/\Hid (k<=n)/\Hid (Lib.IsBuilderF 172 5 w.heap.size w.heap.size (Lib.byteCells (SK s k)) wr)/\Hid (Below w.heap.size w wr)/\Hid ((SK s k).length<=4 * k)) (fun wr=>s.size - wr.iterPos (w.heap.size+1))
 case atStart =>
  refine⟨0,0,aN _,au _,?_,hide rfl,hide (aN _),hide ((Lib.IsBuilderF.of (Lib.fresh_isBuilder 172 5 w)).alloc _),hide (((fN _ w).alloc (au _) _).alloc (by simp) _),hide (au _)⟩;have:=ig (w.alloc (.cells #[.pointer none,.slice none 0 0] 172)) s 0;simpa using this
 case round =>
  obtain⟨k,p,hp,hkp,hit,HP,HK,HI,HB,HL⟩:=hrel;have afm:w.heap.size<=wr.heap.size:=HB.out.size;by_cases hlt:p<s.size
  ·have hw1:=width_pos s p
   have hw2:=width_le s p hlt;have hrb:=Ux s p;have hnx:=fun ty=>gZ (P:=prog) wr (w.heap.size+1) s p ty hit hlt
   have HR:Hid (((Utf8.decode s p).1:Nat)=rune s k):=by rw[HP.out];rfl
   have HQ:Hid (p+(Utf8.decode s p).2=pos s (k+1)):=by rw[HP.out];rfl
   have HKn:Hid (k<n):=by
    rcases aH HK.out with h | h
    ·exact h
    ·have h1:=HP.out
     rw[h,HEN.out]at h1;omega
   generalize (Utf8.decode s p).1=r at hnx HR hrb;generalize (Utf8.decode s p).2=m at hnx HQ hw1 hw2;have HIt:=hide (iD wr (w.heap.size+1) s p (p+m) hit);have yI:=hide (iB HB.out (show w.heap.size<=w.heap.size+1 by omega) s (p+m));have HII:=hide (HI.out.iterAt hit (p+m));have HIT:=hide hit;generalize wr.iterAt (w.heap.size+1) s (p+m)=wi at hnx HIt yI HII;have Xt:=hide (tD ((r:Nat):Int) wi (HT3.out wi yI.out) (A8.out wi yI.out));have ZG:=hide (show ZN ((r:Nat):Int)=if jg.look jg.iY ((r:Nat):Int)=10 then 32 else((r:Nat):Int)from rfl);have hwi:w.heap.size+1<wi.heap.size:=(aC.1 HIt.out).1;generalize jg.look jg.iY ((r:Nat):Int)=c at *;clear hit;go_wp2_with fail;refine Xt.out.mono ?_;rintro e w4 ⟨rfl,hb4⟩;have HI4:=hide (MI HII.out hb4);have FL:=hide (yI.out.trans (hb4.mono yI.out.size));have afo:=hide ((hb4.block (w.heap.size+1) hwi).trans HIt.out);have Uw:w.heap.size<=w4.heap.size:=by have:=hb4.size;omega
   clear hb4 Xt;by_cases hc:c=10
   case' pos =>
    subst hc;have hcr:=ZG.out;rw[aE rfl]at hcr;have ZI:=hide hcr;have C81:=hide (Tryz.Builder_WriteRune_k w.heap.size w.heap.size _ 32 (by decide) (by decide) w4 HI4.out (by rw[Lib.byteCells_length];have:=HL.out;omega) Uw);clear hcr ZG
   case' neg =>
    have hcb:(c == 10)=false:=by simpa using hc
    have hcr:=ZG.out;rw[ay hc]at hcr;have ZI:=hide hcr;have C81:=hide (Tryz.Builder_WriteRune_k w.heap.size w.heap.size _ ((r:Nat):Int) (by omega) hrb w4 HI4.out (by rw[Lib.byteCells_length];have:=HL.out;omega) Uw);clear hcr ZG
   all_goals (
    go_wp2_with fail
    refine C81.out.mono ?_
    rintro e w5 ⟨rfl,h1,b1,k1⟩
    have Wa:=hide (show Lib.IsBuilderF 172 5 w.heap.size w.heap.size (Lib.byteCells (SK s (k+1))) w5 by
     rw[SK,<-HR.out,ZI.out,Lib.byteCells_append,Lib.byteCells_encodeRune]
     exact .inr h1)
    have NP:=hide (FL.out.trans b1)
    have abL:=hide (k1.iter afo.out (by omega))
    have Yx:=hide (show(SK s (k+1)).length<=4 * (k+1) by
     have hl4:=Lib.runeCells_le (ZN (rune s k))
     rw[Lib.runeCells_length]at hl4
     have:=HL.out
     rw[SK,aD]
     omega)
    clear h1 b1 k1 C81
    go_wp2
    go_roundw
    case rel=>exact⟨k+1,p+m,by omega,by omega,abL.out,HQ,hide HKn.out,Wa,NP,Yx⟩
    case measure=>rw[gJ abL.out,gJ HIT.out];omega)
  ·have hnx:=fun ty=>gN (P:=prog) wr (w.heap.size+1) s p ty hit hlt
   have HKE:Hid (k=n):=by
    rcases aH HK.out with h | h
    ·have h1:=HEJ.out k h
     have h2:=HP.out;omega
    ·exact h
   have C82:=hide (Tryz.Builder_String_any_k w.heap.size w.heap.size (SK s k) wr HI.out afm);clear hit;go_wp2_with fail;refine C82.out.mono ?_;rintro e w5 ⟨rfl,_,b1,_⟩;have NP:=hide (HB.out.trans b1);clear b1 C82;go_wp2;go_ret;rw[<-HKE.out];exact⟨rfl,NP.out⟩
end Go.Proofs.YtnakejhohdbfdacGreatDoor.Cls.Dc
namespace Go.Proofs.YtnakejhohdbfdacGreatDoor.pS
open Go Dec BA Go.Proofs.Tryz
def best (l:List Int)(x:Int):Nat->Int
 | 0=>0
 | i+1=>if l.getD i 0<=x then l.getD i 0 else best l x i
theorem QK {l:List Int}{x:Int}:∀ {k:Nat},(∀i,i<k->l.getD i 0<=x)->best l x (k+1 - 1)=if k=0 then 0 else l.getD (k - 1) 0
 | 0,_=>rfl
 | k+1,h=>by
   show best l x (k+1)=_;rw[best,aE (h k (bP _))];simp
theorem zB {l:List Int}{x:Int}{k:Nat}:∀d,(∀i,k<=i->i<k+d->x<l.getD i 0)->best l x (k+d)=best l x k
 | 0,_=>rfl
 | d+1,h=>by
   rw[show k+(d+1)=(k+d)+1 from rfl,best,ay (by have:=h (k+d) (by omega) (by omega);omega)];exact zB d fun i h1 h2=>h i h1 (by omega)
theorem CV {l:List Int}(hs:l.Pairwise (· < ·)){x:Int}{k:Nat}(hk:k<l.length)(e:l.getD k 0=x):best l x l.length=x:=by
 have h1:best l x (k+1)=x:=by rw[best,aE (by omega),e]
 have h2:=zB (l:=l) (x:=x) (k:=k+1) (l.length - (k+1)) (fun i h3 h4=>by
  have:=uH hs (show k<i by omega) (by omega);omega)
 rw[show k+1+(l.length - (k+1))=l.length by omega]at h2;rw[h2,h1]
theorem Jz {l:List Int}{x:Int}{k:Nat}(h:Cut l x k)(hne:∀i,k<=i->i<l.length->l.getD i 0≠x):best l x l.length=if k=0 then 0 else l.getD (k - 1) 0:=by
 have h2:=zB (l:=l) (x:=x) (k:=k) (l.length - k) (fun i h3 h4=>by
  have:=h.2.2 i h3 (by omega)
  have:=hne i h3 (by omega)
  omega)
 rw[show k+(l.length - k)=l.length by have:=h.1;omega]at h2;rw[h2];exact QK (k:=k) fun i hi=>by have:=h.2.1 i hi;omega
theorem MJ {l:List Int}{x:Int}{k:Nat}(hn:l.contains x=false):∀i,k<=i->i<l.length->l.getD i 0≠x:=fun i _ h2 e=>by
 have:l.contains x=true:=by
  rw[dU,<-e];simp[List.getD,h2]
 rw[hn]at this;cases this
theorem zC {l:List Int}{z x:Int}{k:Nat}(h:jN l z)(hc:Cut l x k)(hx:0<=x):best l x l.length=mY l x false k:=by
 unfold mY;rw[Bool.or_false];cases hn:l.contains x
 ·rw[Jz hc (MJ hn),ay (by have:=h.uI hc hx hn;omega)]
  rfl
 ·obtain⟨h1,h2⟩:=(contains_iff h.sorted hc).1 hn
  rw[CV h.sorted h1 h2,aE rfl,h2]
end Go.Proofs.YtnakejhohdbfdacGreatDoor.pS
namespace Go.Proofs
open Go.Shelf Go.RowKit Go.Proofs.Tryz
def Tryz.G0:Go.Shelf.Ren:=⟨fun | 108=>102 | n=>n,fun | 28=>32 | 3=>3 | 0=>0 | 4=>4 | n=>n,fun | n=>n⟩
theorem Tryz.Uy:Go.Proofs.Lays.n108 prog Tryz.G0:={
 mixed:=by kernel_rfl
 f108:=Tryz.func102.trans (congrArg some (by kernel_rfl))
 t0:=underlying0
 a0:=isAgg0
 z0:=sizeOf0
 v0:=zeroValue0
 t3:=underlying3
 a3:=isAgg3
 z3:=sizeOf3
 v3:=zeroValue3
 t4:=underlying4
 a4:=isAgg4
 z4:=sizeOf4
 v4:=zeroValue4
 t28:=underlying32
 a28:=isAgg32
 z28:=sizeOf32
 v28:=zeroValue32 }
theorem Tryz.slices_Index_int (b off n c:Nat)(zs:List Int)(x:Int)(w:World)(hz:n<=zs.length)(hbig:n<=9223372036854775807)(hc:∀j,j<zs.length->w.cell? ⟨b,off+j,none⟩=some (.int .i64 (zs.getD j 0))) :
 Calls prog 102 #[.slice (some ⟨b,off,none⟩) n c,.int .i64 x] w fun e w'=>e=.returned (.int .i64 (Lib.idxOf (zs.take n) x))/\w'=w:=Any.slices_Index_int Tryz.Uy b off n c zs x w hz hbig hc
end Go.Proofs
namespace Go.Proofs.YtnakejhohdbfdacGreatDoor
open Go.RowKit j9 Lay Go.Proofs.Tryz
def abM (P:Nat->Nat)(ri:Nat->Nat)(Ev:Nat->Int)(W:List Int)(k:Nat):Int × Int × Int × Int:=(((P (ri k):Nat):Int),((P (ri (k+1)):Nat):Int),Ev (ri k),wid W (ri k) (ri (k+1)))
def Yy (P:Nat->Nat)(ri:Nat->Nat)(Ev:Nat->Int)(W:List Int)(m:Nat):List (Int × Int × Int × Int):=(List.range m).map (abM P ri Ev W)
def clP (B V X:List Int)(c:Nat):List (Int × Int × Int × Int):=(List.range c).map fun i=>(nth B i,nth B (i+1),nth V i,nth X i)
end Go.Proofs.YtnakejhohdbfdacGreatDoor
namespace Go.Proofs.YtnakejhohdbfdacGreatDoor
open Go.RowKit j9 Go.Maps Go.Proofs.Tryz
theorem QL (w:World):Calls prog 163 #[.slice none 0 0] w fun e w'=>e=.returned (.map (some w.heap.size))/\w'=w.alloc (.map #[] 0):=by
 have hmm:=@run_makeMap prog;go_enter func163,ntmps163;go_wp2;go_loopw [4,11] (fun v a wr=>v=.slice none 0 0/\a=.int .i64 0/\wr=w.alloc (.map #[] 0)) (fun _ _ _=>0)
 case atStart=>exact⟨rfl,rfl,rfl⟩
 case round =>
  obtain⟨rfl,rfl,rfl⟩:=hrel;go_wp2;go_ret;exact⟨rfl,rfl⟩
theorem QO (s:ByteArray)(w:World)(hs:s.size=0):Calls prog 135 #[.string s] w fun e w'=>e=.returned (.pointer (some ⟨w.heap.size,0,none⟩))/\QN w' w.heap.size 0/\Fr [] w w':=by
 go_enter func135,ntmps135;go_wp2_with fail;go_loopw [5] (fun _ wr=>wr.heap[w.heap.size+1]?=some (.stringIter s 0)/\Hid (wr.heap[w.heap.size]?=some (.cells #[.slice none 0 0,.map none,.int .i64 0] 260 (0,0)))/\Hid (Fr [] w wr)) (fun _ _=>0)
 case atStart =>
  refine⟨?_,hid ?_,hid ?_⟩
  ·have e:(w.alloc (.cells #[.slice none 0 0,.map none,.int .i64 0] 260)).heap.size=w.heap.size+1:=by simp
   rw[<-e];exact ig _ _ _
  ·exact(gC _ _ _ (by simp)).trans (gQ _ _)
  ·exact((Fr.refl _ _).alloc _).alloc _
 case round =>
  obtain⟨hit,HA,HF⟩:=hrel;have hnx:=fun ty=>gN (P:=prog) wr (w.heap.size+1) s 0 ty hit (by omega)
  have g0:wr.cell? ⟨w.heap.size,0,none⟩=some (.slice none 0 0):=by rw[fI _ _ 0 _ 260 (0,0) HA.out];rfl
  have HA1:=hid ((fS wr (.map #[] 0) w.heap.size (aC.1 HA.out).1).trans HA.out);have g1:(wr.alloc (.map #[] 0)).cell? ⟨w.heap.size,1,none⟩=some (.map none):=by rw[fI _ _ 1 _ 260 (0,0) HA1.out];rfl
  have g2:=fT (wr.alloc (.map #[] 0)) w.heap.size 1 _ 260 HA1.out;go_wp2_with (first | (go_at_call 163;refine(QL _).mono ?_;rintro e w1 ⟨rfl,rfl⟩));go_ret;refine⟨rfl,⟨wr.heap.size,?_⟩,?_⟩
  ·rw[fU _ _ 1 _ 260 _ HA1.out];rfl
  ·exact(HF.out.alloc _).behind (jT _ _ 1 _) (fun k hk=>by rw[ak.1 hk];exact au _)
theorem JA (P:Nat)(w:World):Calls prog 164 #[.pointer (some ⟨P,0,none⟩),.int .i64 0,.int .i64 0] w fun e w'=>e=.returned (.bool false)/\w'=w:=by
 go_enter func164,ntmps164;go_wp2;go_loopw [7] (fun a wr=>a=.int .i64 0/\wr=w) (fun _ _=>0)
 case atStart=>exact⟨rfl,rfl⟩
 case round =>
  obtain⟨rfl,rfl⟩:=hrel;go_wp2;go_ret;exact⟨rfl,rfl⟩
theorem QR (P:Nat)(b:Int)(w:World)(h:QN w P 0)(hb:b=0\/b=1\/b=2):Calls prog 136 #[.pointer (some ⟨P,0,none⟩),.int .i64 b] w fun e w'=>e=.returned (.int .i64 (j0 [] b))/\w'=w:=by
 have c0:=h.c0;clear h
 rcases hb with rfl | rfl | rfl
 all_goals (
  go_enter func136,ntmps136
  go_wp2_with (first | (go_at_call 164;refine(JA _ _).mono ?_;rintro e w1 ⟨rfl,rfl⟩) | (go_at_call 165;refine(Cj _ _).mono ?_;rintro e w1 ⟨rfl,rfl⟩))
  go_ret
  exact⟨rfl,rfl⟩)
theorem MK (P:Nat)(lv:Int)(w:World)(h:QN w P lv):Calls prog 137 #[.pointer (some ⟨P,0,none⟩)] w fun e w'=>e=.returned (.tuple #[])/\Fr [] w w':=by
 have c0:=h.c0;have c2:=h.c2;have hp:=fC _ _ c2;dsimp only at hp;clear h;go_enter func137,ntmps137;go_wp2;obtain⟨W,hW⟩:∃W,(w.alloc (.cells #[.int .i64 lv,.int .i64 (-1),.bool false] 284)).alloc (.cells #[.slice (some ⟨w.heap.size,0,none⟩) 1 1,.int .i64 0,.int .i64 0,.int .i64 0] 287)=W:=⟨_,rfl⟩;have HF:=hid (show Fr [] w W by rw[<-hW];exact((Fr.refl _ _).alloc _).alloc _);rw[hW];clear hW;go_loopw [17] (fun a wr=>a=.int .i64 0/\wr=W) (fun _ _=>0)
 case atStart=>exact⟨rfl,rfl⟩
 case round =>
  obtain⟨rfl,rfl⟩:=hrel;go_wp2;go_end0;exact⟨rfl,HF.out⟩
theorem QT (P:Nat)(lv:Int)(w:World)(h:QN w P lv):Calls prog 172 #[.pointer (some ⟨P,0,none⟩)] w fun e w'=>e=.returned (.slice none 0 0)/\w'=w:=by
 have c0:=h.c0;clear h;go_enter func172,ntmps172;go_wp2;go_loopw [3,12] (fun v a wr=>v=.slice none 0 0/\a=.int .i64 0/\wr=w) (fun _ _ _=>0)
 case atStart=>exact⟨rfl,rfl,rfl⟩
 case round =>
  obtain⟨rfl,rfl,rfl⟩:=hrel;go_wp2;go_ret;exact⟨rfl,rfl⟩
theorem QU (P:Nat)(lv:Int)(w:World)(h:QN w P lv):Calls prog 138 #[.pointer (some ⟨P,0,none⟩)] w fun e w'=>e=.returned (.slice none 0 0)/\w'=w.alloc (.map #[] 0):=by
 have hmm:=@run_makeMap prog;have HR:=hid (QT P lv w h);clear h;go_enter func138,ntmps138;go_wp2_with (first | (go_at_call 172;refine HR.out.mono ?_;rintro e w1 ⟨rfl,rfl⟩));go_loopw [4,17] (fun v a wr=>v=.slice none 0 0/\a=.int .i64 0/\wr=w1.alloc (.map #[] 0)) (fun _ _ _=>0)
 case atStart=>exact⟨rfl,rfl,rfl⟩
 case round =>
  obtain⟨rfl,rfl,rfl⟩:=hrel;go_wp2;go_ret;exact⟨rfl,rfl⟩
theorem QV (P:Nat)(lv:Int)(w:World)(h:QN w P lv):Calls prog 143 #[.pointer (some ⟨P,0,none⟩)] w fun e w'=>e=.returned (.tuple #[])/\w'=w:=by
 have c0:=h.c0;have c2:=h.c2;clear h;go_enter func143,ntmps143;go_wp2;go_loopw [2,13] (fun x a wr=>x=.int .i64 lv/\a=.int .i64 0/\wr=w) (fun _ _ _=>0)
 case atStart=>exact⟨rfl,rfl,rfl⟩
 case round =>
  obtain⟨rfl,rfl,rfl⟩:=hrel;go_wp2;go_end0;exact⟨rfl,rfl⟩
theorem JB (P:Nat)(lv:Int)(w:World)(h:QN w P lv):Calls prog 144 #[.pointer (some ⟨P,0,none⟩)] w fun e w'=>(∃g,e=.returned (.slice (some ⟨g,0,none⟩) 0 0))/\Fr [] w w':=by
 have c0:=h.c0;have hp:=fC _ _ c0;dsimp only at hp;obtain⟨i3,hi3,Cp,Cq,hz32⟩:=fY info3;obtain⟨ZL,Xc⟩:∃ZL,ZL=madeCells #[.int .i64 0] 0:=⟨_,rfl⟩;have aak:∀X:World,(Instr.makeSlice 32 (.int .i64 0) (.int .i64 0)).run prog X=.ok (.slice (some ⟨X.heap.size,0,none⟩) 0 0) (X.alloc (.cells ZL 3)):=fun X=>by
  have:=run_make (P:=prog) X 32 3 i3 _ underlying32 hi3 Cp .i64 .i64 0 0 (by omega) (eD _) (by rw[hz32];omega) (by omega);rw[Cq]at this;rw[Xc];exact this
 clear h Xc;go_enter func144,ntmps144;go_wp2;go_loopw [17] (fun a wr=>a=.int .i64 0/\wr=w.alloc (.cells ZL 3)) (fun _ _=>0)
 case atStart=>exact⟨rfl,rfl⟩
 case round =>
  obtain⟨rfl,rfl⟩:=hrel;go_wp2;go_ret;exact⟨⟨_,rfl⟩,(Fr.refl _ _).alloc _⟩
theorem of_nil (s:ByteArray)(b:Int)(w:World)(hs:s.size=0)(hb:b=0\/b=1\/b=2) :
 Calls prog 111 #[.string s,.int .i64 b] w fun e w'=>∃g,e=.returned (.tuple #[.slice (some ⟨g,0,none⟩) 0 0,.int .i64 (j0 [] b)])/\Fr [] w w':=by
 have H65:=hid (QO s w hs);have SH:=hid (fun Y h=>QR w.heap.size b Y h hb);generalize j0 [] b=lv at *;clear hs hb;go_enter func111,ntmps111;go_wp2_with fail;refine H65.out.mono ?_;rintro e w1 ⟨rfl,hq1,hf1⟩;have Qr:=hid (SH.out w1 hq1);have P_:=hid hq1;have jc:=hid hf1;have c2:=hq1.c2;have f2:=hq1.f2;have za:=fC _ _ c2;dsimp only at za;clear H65 SH hq1 hf1;go_wp2_with fail;refine Qr.out.mono ?_;rintro e w1 ⟨rfl,rfl⟩;have Ye:=hid (P_.out.set lv);have i_:=hid (show Fr [] w (w1.setCell ⟨w.heap.size,2,none⟩ (.int .i64 lv))from jc.out.behind (jT w1 _ 2 _) (fun k hk=>by rw[ak.1 hk];exact au _));have H67:=hid (MK w.heap.size lv _ Ye.out);clear Qr;go_wp2_with fail;refine H67.out.mono ?_;rintro e w3 ⟨rfl,hf3⟩;have HQ3:=hid (Ye.out.fr hf3 aj);have jQ:=hid (i_.out.trans hf3);have Yf:=hid (QU w.heap.size lv w3 HQ3.out);clear H67 hf3;go_wp2_with fail;refine Yf.out.mono ?_;rintro e w4 ⟨rfl,rfl⟩;have XW:=hid (HQ3.out.fr ((Fr.refl [] w3).alloc (.map #[] 0)) aj);have jI:=hid (jQ.out.alloc (.map #[] 0));have Yi:=hid (QV w.heap.size lv _ XW.out);generalize w3.alloc (.map #[] 0)=w4 at *;clear Yf;go_wp2;go_loopw [22] (fun a wr=>a=.int .i64 0/\wr=w4) (fun _ _=>0)
 case atStart=>exact⟨rfl,rfl⟩
 case round =>
  obtain⟨rfl,rfl⟩:=hrel;go_wp2_with fail;refine Yi.out.mono ?_;rintro e w5 ⟨rfl,rfl⟩;have c3:=XW.out.c2;have H74:=hid (fun X (hf:Fr [] w5 X)=>JB w.heap.size lv X (XW.out.fr hf aj));clear Yi;go_wp2;go_region_with (first | (go_at_call 144;refine(H74.out _ ?_).mono ?_;exact s_ _ _ _ rfl rfl rfl rfl;rintro e w6 ⟨⟨g,rfl⟩,jJ⟩;have Jl:Fr [] w5 w6:=⟨jJ.os,jJ.tape,jJ.output,jJ.size,jJ.block⟩;have zl:=hid (jI.out.trans Jl);have c4:=Jl.cell c3 aj;clear jJ Jl))
  all_goals (
   go_wp2
   go_ret2
   exact⟨g,rfl,zl.out⟩)
end Go.Proofs.YtnakejhohdbfdacGreatDoor
namespace Go.Proofs.YtnakejhohdbfdacGreatDoor
open Go.RowKit j9 Lay pS Go.Shelf Go.Proofs.Tryz
theorem Uz (v0 v1 v2:Value)(w:World) :
 Calls prog 147 #[.agg #[v0,v1,v2],.int .i64 0,.int .i64 0] w fun e w'=>∃go,e=.returned (.slice (some ⟨go,0,none⟩) 0 0)/\w'.ownsRow w.heap.size 3 1 (.slice (some ⟨go,0,none⟩) 0 0) 0 (jk [])/\Fr [] w w':=by
 obtain⟨i3,hi3,Cp,Cq,hz32⟩:=fY info3;have aak:∀X:World,(Instr.makeSlice 32 (.int .i64 0) (.int .i64 0)).run prog X=.ok (.slice (some ⟨X.heap.size,0,none⟩) 0 0) (X.alloc (.cells #[] 3)):=fun X=>by
  have:=run_make (P:=prog) X 32 3 i3 _ underlying32 hi3 Cp .i64 .i64 0 0 (by omega) (eD _) (by rw[hz32];omega) (by omega);rw[Cq]at this;exact this.trans (by simp[madeCells,Array.range])
 obtain⟨wx,hwx⟩:∃wx,wx=(w.alloc (.cells #[v0,v1,v2] 146)).alloc (.cells #[] 3):=⟨_,rfl⟩;have HF:=hid (show Fr [] w wx by rw[hwx];exact((Fr.refl [] w).alloc _).alloc _)
 have HO:=hid (show wx.heap[w.heap.size+1]?=some (.cells #[] 3 (0,0)) by
  have h:=iL (w.alloc (.cells #[v0,v1,v2] 146)) (.cells #[] 3)
  rw[<-hwx]at h;simpa using h)
 go_enter func147,ntmps147;go_wp2_with fail;rw[<-hwx];clear hwx;go_loopw [8,9,19] (fun a b c wr=>a=.int .i64 0/\b=.int .i64 9223372036854775807/\c=.int .i64 0/\Hid (wr.heap[w.heap.size+1]?=some (.cells #[] 3 (0,0)))/\Hid (Fr [] w wr)) (fun _ _ _ _=>0)
 case atStart=>exact⟨rfl,rfl,rfl,HO,HF⟩
 case round =>
  obtain⟨rfl,rfl,rfl,lT,jc⟩:=hrel;go_wp2_with fail;go_loopw [12] (fun a wr=>a=.int .i64 0/\Hid (wr.heap[w.heap.size+1]?=some (.cells #[] 3 (0,0)))/\Hid (Fr [] w wr)) (fun _ _=>0)
  case atStart=>exact⟨rfl,lT,jc⟩
  case round =>
   obtain⟨rfl,jO,i_⟩:=hrel;go_wp2_with fail;go_ret;exact⟨w.heap.size+1,rfl,⟨rfl,.inr ⟨_,0,#[],rfl,aF _,jO.out,au _,aN _,rfl,rfl⟩⟩,i_.out⟩
theorem QW (v0 v1 v2:Value)(g c:Nat)(w:World) :
 Calls prog 148 #[.agg #[v0,v1,v2],.slice (some ⟨g,0,none⟩) 0 c] w fun e w'=>∃gx cx,e=.returned (.slice (some ⟨gx,0,none⟩) 1 cx)/\w'.ownsRow w.heap.size 2 1 (.slice (some ⟨gx,0,none⟩) 1 cx) 1 (iS [0])/\Fr [] w w':=by
 obtain⟨wx,hwx⟩:∃wx,wx=(w.alloc (.cells #[v0,v1,v2] 146)).alloc (.cells #[.int .i64 0] 2):=⟨_,rfl⟩;have HF:=hid (show Fr [] w wx by rw[hwx];exact((Fr.refl [] w).alloc _).alloc _)
 have HO:=hid (show wx.heap[w.heap.size+1]?=some (.cells #[.int .i64 0] 2 (0,0)) by
  have h:=iL (w.alloc (.cells #[v0,v1,v2] 146)) (.cells #[.int .i64 0] 2)
  rw[<-hwx]at h;simpa using h)
 go_enter func148,ntmps148;go_wp2_with fail;rw[<-hwx];clear hwx;go_loopw [5,11] (fun a b wr=>a=.slice (some ⟨w.heap.size+1,0,none⟩) 1 1/\b=.int .i64 0/\Hid (wr.heap[w.heap.size+1]?=some (.cells #[.int .i64 0] 2 (0,0)))/\Hid (Fr [] w wr)) (fun _ _ _=>0)
 case atStart=>exact⟨rfl,rfl,HO,HF⟩
 case round =>
  obtain⟨rfl,rfl,lT,jc⟩:=hrel;go_wp2_with fail;go_ret;exact⟨w.heap.size+1,1,rfl,⟨rfl,.inr ⟨_,1,#[.int .i64 0],rfl,aF _,lT.out,au _,by unfold maxLen;omega,rfl,rfl⟩⟩,jc.out⟩
end Go.Proofs.YtnakejhohdbfdacGreatDoor
namespace Go.Proofs.YtnakejhohdbfdacGreatDoor
open Go.RowKit j9 Lay pS Go.Proofs.Tryz
def QX:Ln:=⟨0,0,[],[0]⟩
theorem at_nil (gB cB:Nat)(v1 v2:Value)(w:World)(hB:rowAt w gB 1 [0]) :
 Calls prog 100 #[.agg #[.slice (some ⟨gB,0,none⟩) 1 cB,v1,v2],.int .i64 0] w fun e w'=>e=.returned (.int .i64 0)/\Fr [] w w' :=
 (wO [0] 0 ⟨by simp,rfl,rfl⟩ 0 gB cB 1 v1 v2 w rfl (by omega) hB).mono (fun _ _ h=>h)
theorem ML (gB cB ge ce:Nat)(w:World)(hce:2<=ce)(hB:rowAt w gB 1 [0])(hE:rowAt w ge 2 [0,0]) :
 Calls prog 114 #[.agg #[.slice (some ⟨gB,0,none⟩) 1 cB,.slice none 0 0,.slice none 0 0],.slice (some ⟨ge,0,none⟩) 2 ce] w fun e w'=>∃vL hs,e=.returned vL/\w'.ownsRow w.heap.size 69 4 vL 1 hs/\mU w' w.heap.size w'.heap.size hs [QX]/\Fr [] w w':=by
 obtain⟨i51,XI,hx0,hx1,hx2⟩:=fY O1;obtain⟨vS,AH⟩:∃vS:Array Value,vS=#[.slice (some ⟨gB,0,none⟩) 1 cB,.slice none 0 0,.slice none 0 0]:=⟨_,rfl⟩;obtain⟨wb,E2⟩:∃wb,wb=w.alloc (.cells #[.slice (some ⟨gB,0,none⟩) 1 cB,.slice none 0 0,.slice none 0 0] 146):=⟨_,rfl⟩;have j8:=hid (show Fr [] w wb by rw[E2];exact(Fr.refl [] w).alloc _);have AF:=hid (show wb.heap[w.heap.size]?=some (.cells #[.slice (some ⟨gB,0,none⟩) 1 cB,.slice none 0 0,.slice none 0 0] 146 (0,0)) by rw[E2];exact iL w _);have Gw:wb.heap.size=w.heap.size+1:=by rw[E2];simp
 have HE:=hid hE;have HA:=hid (fun(X:World) (hf:Fr [] w X)=>at_nil gB cB (.slice none 0 0) (.slice none 0 0) X (hB.fr hf aj));have HVS:=hid (fun(X:World)=>Uz (.slice (some ⟨gB,0,none⟩) 1 cB) (.slice none 0 0) (.slice none 0 0) X);have Tw:=hid (fun(go:Nat) (X:World)=>QW (.slice (some ⟨gB,0,none⟩) 1 cB) (.slice none 0 0) (.slice none 0 0) go 0 X);clear AH hE hB vS;have aee:¬ce=1:=by omega
 have aef:1<ce:=by omega
 go_enter func114,ntmps114;go_wp2_with fail;rw[<-E2];go_loopw [5,13] (fun vL kk wr=>∃(i:Nat) (hs:List Value),kk=.int .i64 i/\i<=1/\Hid (wr.ownsRow (w.heap.size+1) 69 4 vL i hs)/\Hid (mU wr (w.heap.size+1) wr.heap.size hs ([QX].take i))/\Hid (Fr [] wb wr)) (fun _ kk _=>1 - (intOf kk).toNat)
 case atStart=>exact⟨0,[],rfl,aN _,hid ⟨rfl,.inl ⟨rfl,rfl⟩⟩,hid (fun j l hj=>by simp at hj),hid (Fr.refl _ _)⟩
 case round =>
  obtain⟨i,hs,rfl,hiK,HL,HI,HF⟩:=hrel;have qQ:=hid (j8.out.trans HF.out);by_cases hil:i<1
  ·obtain rfl:i=0:=by omega
   have e0:wr.cell? ⟨ge,0,none⟩=some (.int .i64 0):=HE.out.fr qQ.out aj 0 (by omega);have e1:wr.cell? ⟨ge,1,none⟩=some (.int .i64 0):=HE.out.fr qQ.out aj 1 (by omega);obtain⟨aL,cL,DE⟩:=iW HL.out;subst DE;have AG:=hid (iJ AF.out HF.out aj);have s0:wr.cell? ⟨w.heap.size,0,none⟩=some (.slice (some ⟨gB,0,none⟩) 1 cB):=iG AG.out (i:=0) rfl;have s1:wr.cell? ⟨w.heap.size,1,none⟩=some (.slice none 0 0):=iG AG.out (i:=1) rfl;have s2:wr.cell? ⟨w.heap.size,2,none⟩=some (.slice none 0 0):=iG AG.out (i:=2) rfl;have TG:=hid (And.intro s0 (And.intro s1 s2));have hbl:=fC _ _ s0;dsimp only at hbl;go_wp2_with fail;go_region_held (fun wz=>wz.cell? ⟨w.heap.size,0,none⟩=some (.slice (some ⟨gB,0,none⟩) 1 cB)/\wz.cell? ⟨w.heap.size,1,none⟩=some (.slice none 0 0)/\wz.cell? ⟨w.heap.size,2,none⟩=some (.slice none 0 0))
    (first | exact l9 | exact TG.out | go_keep)
    (first
      | (go_at_call 100;refine(HA.out _ ?fa).mono ?_;(case fa=>first | exact jc.out.trans (s_ _ _ _ rfl rfl rfl rfl) | exact qQ.out.trans (s_ _ _ _ rfl rfl rfl rfl));rintro e w1 ⟨rfl,hf1⟩;have jc:=hid (show Fr [] w w1 from by first | exact jc.out.trans ⟨hf1.os,hf1.tape,hf1.output,hf1.size,hf1.block⟩ | exact qQ.out.trans ⟨hf1.os,hf1.tape,hf1.output,hf1.size,hf1.block⟩);have nH:=hid (show Fr [] wr w1 from by first | exact nH.out.trans ⟨hf1.os,hf1.tape,hf1.output,hf1.size,hf1.block⟩ | exact⟨hf1.os,hf1.tape,hf1.output,hf1.size,hf1.block⟩);have l9:=And.intro (nH.out.cell s0 aj) (And.intro (nH.out.cell s1 aj) (nH.out.cell s2 aj));clear hf1)
      | (go_at_call 147;refine(HVS.out _).mono ?_;rintro e w2 ⟨go,rfl,jR,hf2⟩;have jO:=hid (iU (base':=w.heap.size+1) jR (aK hbl nH.out.size));have HG2:=hid (show Fr [] wr w2 from nH.out.trans ⟨hf2.os,hf2.tape,hf2.output,hf2.size,hf2.block⟩);have hsz2:=nH.out.size;have l9:=And.intro (HG2.out.cell s0 aj) (And.intro (HG2.out.cell s1 aj) (HG2.out.cell s2 aj));clear jR hf2))
   all_goals (
    obtain⟨t0,t1,t2⟩:=l9
    have XJ:=HG2.out.size
    go_wp2_with (first
     | (go_at_call 148;refine(Tw.out _ _).mono ?_;rintro e w3 ⟨gx,cx,rfl,lK,hf3⟩;have Cz:=hid (iU (base':=w.heap.size+1) lK (aK hbl XJ));have n_:=hid (show Fr [] w2 w3 from⟨hf3.os,hf3.tape,hf3.output,hf3.size,hf3.block⟩);have aeh:=n_.out.size;have Md:=hid (iM HL.out (HG2.out.trans n_.out));clear lK hf3)
     | (at_builtin;refine fV _ rfl _ _ 143 rfl (w.heap.size+1) 69 i51 _ 4 64 underlying143 XI hx0 hx1 hx2 rfl (by decide) _ 0 hs rfl ?own _ 1 1 [.int .i64 0,.int .i64 0,.slice (some ⟨go,0,none⟩) 0 0,.slice (some ⟨gx,0,none⟩) 1 cx] rfl rfl (kM _ _ _ _ (by simp)) (Gp _ _ _ _ _ _ _ _) (by unfold maxLen;omega) (by omega) ?Gk ?_))
    case own=>exact Md.out.alloc _
    case Gk=>simp;omega
    intro v' w' hown hgrow hnil
    obtain⟨g',c',hv'⟩:=iQ (by omega) hown
    subst hv'
    have HHO:=hid hown
    have HHG:=hid hgrow
    have jQ:=hid (show Fr [] w2 (w3.alloc (.cells #[.int .i64 0,.int .i64 0,.slice (some ⟨go,0,none⟩) 0 0,.slice (some ⟨gx,0,none⟩) 1 cx] 69))from n_.out.alloc _)
    have J_:=hid (fun(e:Nat) (v:Value) (m:Nat) (xs:List Value) (he:e=3\/e=2) (hh:(w3.alloc (.cells #[.int .i64 0,.int .i64 0,.slice (some ⟨go,0,none⟩) 0 0,.slice (some ⟨gx,0,none⟩) 1 cx] 69)).ownsRow (w.heap.size+1) e 1 v m xs)=>show w'.ownsRow (w.heap.size+1) e 1 v m xs from mE hh HHG.out (fun g hg=>by
     obtain⟨cs,t',f',h5,h6⟩:=pW (Md.out.alloc (.cells #[.int .i64 0,.int .i64 0,.slice (some ⟨go,0,none⟩) 0 0,.slice (some ⟨gx,0,none⟩) 1 cx] 69)) hg
     exact⟨cs,t',f',h5,by rw[h6];rcases he with rfl | rfl <;> decide⟩))
    have aej:w3.heap.size<=w'.heap.size:=by have h5:=hgrow.size;simp at h5;omega
    have HI4:=hid (show mU w' (w.heap.size+1) w'.heap.size (hs++[.int .i64 0,.int .i64 0,.slice (some ⟨go,0,none⟩) 0 0,.slice (some ⟨gx,0,none⟩) 1 cx]) [QX] by
     refine mU.snoc (Ls:=[]) (l:=QX) (n:=0) HI.out rfl HL.out.1 (by have:=HG2.out.size;have:=n_.out.size;omega) (fun e v m xs he _ hh=>J_.out e v m xs he (iM hh (HG2.out.trans jQ.out))) ?_ ?_ ?_ ?_
     ·exact J_.out 3 _ _ _ (.inl rfl) (iM jO.out jQ.out)
     ·exact J_.out 2 _ _ _ (.inr rfl) (Cz.out.alloc _)
     ·intro g hg;cases hg;have:=(ji jO.out).2;show go<_;omega
     ·intro g hg;cases hg;have:=(ji Cz.out).2;show gx<_;omega)
    have jI:=hid (show Fr [] wb w' from(HF.out.trans (HG2.out.trans jQ.out)).grown HHG.out (fun g hg=>by
     have:=(Md.out.lt g hg).1;omega))
    clear hown hgrow hnil
    go_wp2
    go_roundw
    case rel=>exact⟨1,_,rfl,by omega,HHO,HI4,jI⟩
    case measure=>simp[intOf])
  ·obtain rfl:i=1:=by omega
   have HIL:=hid (show mU wr w.heap.size wr.heap.size hs [QX]from fun j l hj=>by
    obtain⟨vO,vX,a1,a2,a3,a4,a5,a6,a7⟩:=HI.out j l hj
    exact⟨vO,vX,a1,a2,a3,a4,iU a5 (by omega),iU a6 (by omega),a7⟩)
   go_wp2;go_ret;exact⟨_,hs,rfl,iU HL.out (by omega),HIL.out,qQ.out⟩
open Go.Shelf
attribute [local go_sem] gy
theorem KM {s:ByteArray}(hs:s.size=0):bnd s 0=[0]:=by
 rw[bnd,ay (by omega)];rfl
theorem MM (s:ByteArray)(b:Int)(aW aB:Option Addr)(nW cW nB cB gL cL:Nat)(w:World)(hs:s.size=0)(ht:Cls.TabAt w 0 jg.jr) :
 Calls prog 113 #[.agg #[.string s,.int .i64 b,.slice aW nW cW,.slice aB nB cB],.slice none 0 0,.slice (some ⟨gL,0,none⟩) 0 cL] w fun e w'=>∃gB cB,e=.returned (.agg #[.slice (some ⟨gB,0,none⟩) 1 cB,.slice none 0 0,.slice none 0 0])/\rowAt w' gB 1 [0]/\w.heap.size<=gB/\Fr [] w w':=by
 obtain⟨w2,hw2⟩:∃w2,w2=(w.alloc (.cells #[.string s,.int .i64 b,.slice aW nW cW,.slice aB nB cB] 64)).alloc (.cells #[.slice none 0 0,.slice none 0 0,.slice none 0 0] 146):=⟨_,rfl⟩;have i_:=hid (show Fr [] w w2 by rw[hw2];exact((Fr.refl [] w).alloc _).alloc _);have lT:=hid (show w2.heap[w.heap.size]?=some (.cells #[.string s,.int .i64 b,.slice aW nW cW,.slice aB nB cB] 64 (0,0)) by rw[hw2];exact iJ (iL w _) ((Fr.refl [] _).alloc _) aj);have aeZ:w2.heap.size=w.heap.size+2:=by rw[hw2];simp
 have jO:=hid (show w2.heap[w.heap.size+1]?=some (.cells #[.slice none 0 0,.slice none 0 0,.slice none 0 0] 146 (0,0)) by
  have h:=iL (w.alloc (.cells #[.string s,.int .i64 b,.slice aW nW cW,.slice aB nB cB] 64)) (.cells #[.slice none 0 0,.slice none 0 0,.slice none 0 0] 146)
  rw[fD]at h;rw[hw2];exact h)
 have abN:=hid (Cls.qV s w2 (by omega) (lB ht i_.out));have HE:=hid (show Dec.Ends s 0 from⟨hs.symm,fun j hj=>absurd hj (cu _)⟩);have HBN:=hid (KM hs);have k0:=iG lT.out (i:=0) (v:=.string s) rfl;clear ht hs;go_enter func113,ntmps113;go_wp2_with fail;rw[<-hw2];refine abN.out.mono ?_;rintro e w3 ⟨n',v,hn',rfl,own,hb3⟩;obtain rfl:=Dec.kW HE.out hn';rw[HBN.out]at own;have jQ:=hid (i_.out.trans (Fr.of_below (S:=[]) hb3));have CO:=hid (iJ jO.out (Fr.of_below (S:=[]) hb3) aj);have own:w3.ownsRow w2.heap.size 3 1 v 1 (iS [0]):=own;obtain⟨gB,cB,hv⟩:=iQ (by omega) own;subst hv;have wR:=hid (show rowAt w3 gB 1 [0]from fun j hj=>by rw[own.cellAt j (by omega),k_ hj]);have abu:=(ji own).1;have hgB:=(ji own).2;clear own hb3 hn' abN k0 hw2;have ae0:w.heap.size+2<=w3.heap.size:=by have:=iO CO.out;omega
 go_wp2_with fail;go_loopw [16] (fun ii wr=>ii=.int .i64 0/\Hid (wr.heap[w3.heap.size]?=some (.cells #[.slice (some ⟨gB,0,none⟩) 1 cB,.slice none 0 0,.slice none 0 0] 146 (0,0)))/\Hid (Fr [] w3 wr)) (fun _ _=>0)
 case atStart=>exact⟨rfl,hid (iL w3 _),hid ((Fr.refl [] w3).alloc _)⟩
 case round =>
  obtain⟨rfl,NT,HF⟩:=hrel;have wY:=hid (iJ CO.out HF.out aj);have c0:=iG NT.out (i:=0) (v:=.slice (some ⟨gB,0,none⟩) 1 cB) rfl;have c1:=iG NT.out (i:=1) (v:=.slice none 0 0) rfl;have c2:=iG NT.out (i:=2) (v:=.slice none 0 0) rfl;have r0:=iG wY.out (i:=0) (v:=.slice none 0 0) rfl;have r1:=iG wY.out (i:=1) (v:=.slice none 0 0) rfl;have r2:=iG wY.out (i:=2) (v:=.slice none 0 0) rfl;have rf0:=iH wY.out 0;have rf1:=iH wY.out 1;have rf2:=iH wY.out 2;have hne:w3.heap.size≠w.heap.size+1:=by omega
  have s8:=hid (show(((wr.setCell ⟨w.heap.size+1,0,none⟩ (.slice (some ⟨gB,0,none⟩) 1 cB)).setCell ⟨w.heap.size+1,1,none⟩ (.slice none 0 0)).setCell ⟨w.heap.size+1,2,none⟩ (.slice none 0 0)).heap[w.heap.size+1]?=some (.cells #[.slice (some ⟨gB,0,none⟩) 1 cB,.slice none 0 0,.slice none 0 0] 146 (0,0))from iI (iI (iI wY.out 0 _) 1 _) 2 _);have Fz:=hid (show Fr [w.heap.size+1] wr (((wr.setCell ⟨w.heap.size+1,0,none⟩ (.slice (some ⟨gB,0,none⟩) 1 cB)).setCell ⟨w.heap.size+1,1,none⟩ (.slice none 0 0)).setCell ⟨w.heap.size+1,2,none⟩ (.slice none 0 0))from((((Fr.refl [w.heap.size+1] wr).set (ak.2 rfl) _).set (ak.2 rfl) _).set (ak.2 rfl) _));go_wp2_with fail;refine fE (fH (t:=146) (fr:=(0,0)) rfl _ _ (w.heap.size+1) _ _ rfl s8.out underlying146 rfl (by kernel_rfl)) rfl ?_;refine⟨gB,cB,rfl,(wR.out.fr HF.out aj).fr Fz.out (fun h=>by have:=ak.1 h;omega),by omega,((((jQ.out.trans HF.out).mono (fun _ h _=>absurd h aj):Fr [w.heap.size+1] w wr).trans Fz.out).mono (fun x hx hlt=>by have:=ak.1 hx;omega))⟩
theorem MN (w:World):Calls prog 145 #[.slice none 0 0] w fun e w' =>
 e=.returned (.func (.func 197) #[] #[.pointer (some ⟨w.heap.size,0,none⟩)])/\w'=w.alloc (.cells #[.slice none 0 0] 40):=by
 go_enter func145,ntmps145;go_wp2;go_ret;exact⟨by simp,rfl⟩
theorem QY (bx:Nat)(m l:Nat)(V':Unit->World->Prop)(W:World)(hb:W.cell? ⟨bx,0,none⟩=some (.slice none 0 0))(h0:V' () W) :
 CallsIn Fence.wide m prog 197 (#[.func (.yield l) #[] #[]]++#[.pointer (some ⟨bx,0,none⟩)]) W fun e B=>(∃v,e=.returned v)/\V' () B:=by
 have H0:=hid h0;clear h0;refine callsIn_of_wp func197 rfl trivial ?_ rfl;simp only[ntmps197,cK,bg,List.length_nil,Nat.reduceAdd,Nat.reduceSub,bY,bZ,cN,b_,bT,bV];gi_wp2;clear hb;gi_loopw [3] (fun a wr=>a=.int .i64 (-1)/\Hid (V' () wr)) (fun _ _=>0)
 case atStart=>exact⟨rfl,H0⟩
 case round =>
  obtain⟨rfl,HV⟩:=hrel;gi_wp2;go_end0;exact⟨⟨_,rfl⟩,HV.out⟩
theorem QZ (gL cL ge m ce:Nat)(bs:Int)(w:World) :
 Calls prog 112 #[.slice none 0 0,.slice (some ⟨gL,0,none⟩) 0 cL,.int .i64 bs,.slice (some ⟨ge,0,none⟩) m ce] w fun e w'=>e=.returned (.tuple #[])/\Fr [] w w':=by
 refine(fF (n:=3)).1 ?_;refine gI func112 rfl trivial ?_ rfl;simp only[ntmps112,cK,bg,List.length_nil,Nat.reduceAdd,Nat.reduceSub,bY,bZ,cN,b_,bT,bV];gi_wp2_with (refine⟨trivial,?_⟩;gi_at_call 145;refine(fF.2 (MN _)).mono ?_;rintro e w' ⟨rfl,rfl⟩);obtain⟨W0,hW0⟩:∃W0,((((w.alloc (.cells #[.slice (some ⟨gL,0,none⟩) 0 cL] 32)).alloc (.cells #[.int .i64 bs] 3)).alloc (.cells #[.slice (some ⟨ge,0,none⟩) m ce] 32)).alloc (.cells #[.bool false] 4)).alloc (.cells #[.slice none 0 0] 40)=W0:=⟨_,rfl⟩;have hsz:W0.heap.size=w.heap.size+5:=by rw[<-hW0];simp
 have Aa:VN w W0.heap.size W0:=by
  have k4:W0.heap[w.heap.size+4]?=some (.cells #[.slice none 0 0] 40 (0,0)):=by
   have h:=iL ((((w.alloc (.cells #[.slice (some ⟨gL,0,none⟩) 0 cL] 32)).alloc (.cells #[.int .i64 bs] 3)).alloc (.cells #[.slice (some ⟨ge,0,none⟩) m ce] 32)).alloc (.cells #[.bool false] 4)) (.cells #[.slice none 0 0] 40);rw[hW0]at h;simpa using h
  refine⟨?_,au _,iG k4 (i:=0) rfl⟩;rw[<-hW0];exact(((((Fr.refl [] w).alloc _).alloc _).alloc _).alloc _).alloc _
 rw[hW0];refine vQ rfl (by omega) (gf:=197) (lb:=#[.pointer (some ⟨w.heap.size+4,0,none⟩)]) rfl trivial (g_ func197 (by kernel_rfl) rfl)
  (encs:=fun x:Nat=>#[.int .i64 x,.agg #[.int .i32 0,.int .i64 0,.int .i64 0]]) (fun _=>rfl)
  (fun(_:Unit) A=>VN w W0.heap.size A) (fun _ _ h=>h.n) (fun _ _ _ h hb=>h.below (by omega) hb)
  (fun _ _=>False) (fun _ _=>()) () ()
  (fun l V' W h1 h2 h3 h4=>QY _ _ l V' W (h1 () W h4).b h4)
  (fun _=>.cells #[.int .i32 0,.int .i64 0,.int .i64 0] 48)
  (fun x b=>{ tmps:=#[.slice none 0 0,.slice (some ⟨gL,0,none⟩) 0 cL,.int .i64 bs,.slice (some ⟨ge,0,none⟩) m ce,undef,.pointer (some ⟨w.heap.size,0,none⟩),.pointer (some ⟨w.heap.size+1,0,none⟩),.pointer (some ⟨w.heap.size+2,0,none⟩),.pointer (some ⟨w.heap.size+3,0,none⟩),.int .i64 x,.pointer (some ⟨b,0,none⟩),undef,undef,undef,.slice none 0 0,.func (.func 197) #[] #[.pointer (some ⟨w.heap.size+4,0,none⟩)],.int .i64 x,.agg #[.int .i32 0,.int .i64 0,.int .i64 0],undef,undef,undef,undef,undef,undef,undef,undef,undef,undef,undef,undef,undef,undef,undef,undef,undef,undef,undef,undef,undef,undef,undef,undef,undef,undef,undef,undef,undef,undef,undef],defers:=[] })
  Aa ?assign ?body ?done
 case assign =>
  intro l x W K hK;gi_wp2;exact hK
 case body =>
  rintro l j x A b hV hF;exact hF.elim
 case done =>
  rintro D A hV hD hKd;have HV:=hid hV;clear hV Aa hW0;gi_wp2;refine⟨by simp,.inl ⟨_,_,rfl,gG hKd,?_⟩⟩;refine⟨_,iA rfl _ _ _,rfl,?_⟩;exact(HV.out.below (by omega) (jB hD _)).f
end Go.Proofs.YtnakejhohdbfdacGreatDoor
namespace Go.Proofs.YtnakejhohdbfdacGreatDoor
open Go.RowKit j9 Lay pS Go.Proofs.Tryz
theorem Q0 {s:ByteArray}{Br:List Int}(hs:s.size=0)(h:Lay.nX (bnd s 0) s.size Br Br.length=true):Br=[]:=by
 cases Br with
 | nil=>rfl
 | cons x l =>
   have:=uQ h 0 (by simp);omega
theorem UA {s:ByteArray}(hs:s.size=0):CQ s []=[0,0]:=by simp[CQ,hs]
theorem Q1 (s:ByteArray)(b:Int)(vW vB:Value)(W Br:List Int)(w:World)(hs:s.size=0)(hb:b=0\/b=1\/b=2)(hF:Floor w)(hW:F8 w vW W)(hB:zy w vB Br)(hck:Tm s 0 (zY s 0) b W Br=0) :
 Calls prog 66 #[.agg #[.string s,.int .i64 b,vW,vB]] w fun e w'=>∃P v0 v1 v2 vL hs,e=.returned (.pointer (some ⟨P,0,none⟩))/\LP w' w.heap.size P [0] [] [] (1 - 2 * j0 [] b) [QX] v0 v1 v2 vL hs/\Fr [] w w':=by
 have hend:Dec.Ends s 0:=⟨hs.symm,fun j hj=>absurd hj (cu _)⟩;obtain⟨Yq,hw,hbr⟩:=CT hend (by omega) hb hck;have Yz:=Q0 hs hbr;subst Yz;have hW0:=hW;obtain⟨aW,cW,rfl,hW2⟩:=hW;obtain⟨aB,cB,rfl,_⟩:=id hB;rw[Yq]at hW0 ⊢;obtain⟨bs,hbs⟩:∃bs,bs=j0 [] b:=⟨_,rfl⟩;have GW:=hid (show bs=0\/bs=1 by rw[hbs];exact nu hb);obtain⟨wb,hwb⟩:∃wb,wb=w.alloc (.cells #[.string s,.int .i64 b,.slice aW 0 cW,.slice aB 0 cB] 64):=⟨_,rfl⟩;have j8:=hid (show Fr [] w wb by rw[hwb];exact(Fr.refl [] w).alloc _);have AF:=hid (show wb.heap[w.heap.size]?=some (.cells #[.string s,.int .i64 b,.slice aW 0 cW,.slice aB 0 cB] 64 (0,0)) by rw[hwb];exact iL w _);have P5:=hid (fun(X:World) (hf:Fr [] w X)=>hF.fr hf);have QE:=hid (fun X:World=>Cls.xJ s X (by omega));have Yr:=hid (fun(X:World)=>of_nil s b X hs hb);have Pp:=hid hB;have HE:=hid hend;have NO:=hid hs;rw[<-hbs]at Yr;have hs4:s.size<=400:=by omega
 clear hW0 hW2 hend hck hbr hw Yq hB hF hb hs;rw[<-hbs];clear hbs;dsimp only[List.length_nil]at Pp ⊢;go_enter func66,ntmps66;go_wp2_with fail;rw[<-hwb];have Gw:wb.heap.size=w.heap.size+1:=by rw[hwb];simp
 clear hwb;have jc:=j8;have lT:=AF;refine(QE.out wb).mono ?_;rintro e w2 ⟨n',v,hn',rfl,own,hb2,hz⟩;obtain rfl:=Dec.kW HE.out hn';obtain rfl:=hz rfl;have i_:=hid (jc.out.trans (Fr.of_below (S:=[]) hb2));have jO:=hid (iJ lT.out (Fr.of_below (S:=[]) hb2) aj);have k0:=iG jO.out (i:=0) (v:=.string s) rfl;have k3:=iG jO.out (i:=3) (v:=.slice aB 0 cB) rfl;have hl2:w.heap.size<w2.heap.size:=iO jO.out;have Jx:=hid (x_ s [] aB cB w2 (Pp.out.fr i_.out) (by simp));dsimp only[List.length_nil]at Jx;clear own hb2 hn' QE hz;go_wp2_with fail;refine Jx.out.mono ?_;rintro e w3 ⟨ge,ce,rfl,hce,hge,Yt,hf3⟩;rw[UA NO.out]at Yt;have jQ:=hid (i_.out.trans hf3);have lD:=hid (iJ jO.out hf3 aj);have HE3:=hid Yt;have QF:=hid (Yr.out w3);have k0:=iG lD.out (i:=0) (v:=.string s) rfl;have k1:=iG lD.out (i:=1) (v:=.int .i64 b) rfl;clear Yt hf3 Jx k3 Yr;go_wp2_with fail;refine QF.out.mono ?_;rintro e w4 ⟨gL,rfl,jG⟩;have jI:=hid (jQ.out.trans jG);have oI:=hid (iJ lD.out jG aj);have HE4:=hid (HE3.out.fr jG aj);have QG:=hid (QZ gL 0 ge (0+2) ce bs w4);clear k0 k1 QF jG;go_wp2_with fail;refine QG.out.mono ?_;rintro e w5 ⟨rfl,kK⟩;have pF:=hid (jI.out.trans kK);have rK:=hid (iJ oI.out kK aj);have HE5:=hid (HE4.out.fr kK aj);have QH:=hid (MM s b aW aB 0 cW 0 cB gL 0 w5 NO.out (P5.out w5 pF.out).t9);have k0:=iG rK.out (i:=0) (v:=.string s) rfl;have k1:=iG rK.out (i:=1) (v:=.int .i64 b) rfl;have k2:=iG rK.out (i:=2) (v:=.slice aW 0 cW) rfl;have k3:=iG rK.out (i:=3) (v:=.slice aB 0 cB) rfl;clear kK QG;go_wp2_with fail;refine QH.out.mono ?_;rintro e w6 ⟨gB,AQ,rfl,hrB,hgB,jJ⟩;have zl:=hid (pF.out.trans jJ);have HE6:=hid (HE5.out.fr jJ aj);have wR:=hid hrB;clear hrB jJ QH k0 k1 k2 k3;obtain⟨w7,hw7⟩:∃w7,w7=w6.alloc (.cells #[.slice (some ⟨gB,0,none⟩) 1 AQ,.slice none 0 0,.slice none 0 0] 146):=⟨_,rfl⟩;have wS:=hid (show Fr [] w6 w7 by rw[hw7];exact(Fr.refl [] w6).alloc _);have vg:=hid (show w7.heap[w6.heap.size]?=some (.cells #[.slice (some ⟨gB,0,none⟩) 1 AQ,.slice none 0 0,.slice none 0 0] 146 (0,0)) by rw[hw7];exact iL w6 _);have Yv:=hid (fun(X:World) (hf:Fr [] w7 X)=>ML gB AQ ge ce X hce ((wR.out.fr wS.out aj).fr hf aj) ((HE6.out.fr wS.out aj).fr hf aj));have q0:=iG vg.out (i:=0) (v:=.slice (some ⟨gB,0,none⟩) 1 AQ) rfl;have q1:=iG vg.out (i:=1) (v:=.slice none 0 0) rfl;have q2:=iG vg.out (i:=2) (v:=.slice none 0 0) rfl;have hbI:(0:Int)<=bs/\bs<=1:=by have:=GW.out;omega
 obtain⟨hb0,hb1⟩:=hbI;have hw1:IntKind.i64.wrap (2 * bs)=2 * bs:=by rw[fM];omega
 have hw2:IntKind.i64.wrap (1 - 2 * bs)=1 - 2 * bs:=by rw[fM];omega
 go_wp2_with fail;rw[<-hw7];clear hw7;go_region_with (first | (go_at_call 114;refine(Yv.out _ ?_).mono ?_;exact s_ _ _ _ rfl rfl rfl rfl;rintro e w8 ⟨vL,hs8,rfl,l_,hl8,oL⟩;obtain⟨aL,cL,rfl⟩:=iW l_;have CU:Fr [] w7 w8:=⟨oL.os,oL.tape,oL.output,oL.size,oL.block⟩;have Yh:=hid CU;have Wm:=hid l_;have HL8:=hid hl8;have r0:=CU.cell q0 aj;have r1:=CU.cell q1 aj;have r2:=CU.cell q2 aj;clear oL CU l_ hl8))
 all_goals (
  have DC:=hid (show Fr [] w7 (w8.alloc (.cells #[.slice (some ⟨gB,0,none⟩) 1 AQ,.slice none 0 0,.slice none 0 0,.slice aL 1 cL,.int .i64 (1 - 2 * bs)] 148))from Yh.out.alloc _)
  have Fz:=hid (zl.out.trans (wS.out.trans DC.out))
  have GA:=hid (show LP (w8.alloc (.cells #[.slice (some ⟨gB,0,none⟩) 1 AQ,.slice none 0 0,.slice none 0 0,.slice aL 1 cL,.int .i64 (1 - 2 * bs)] 148)) w.heap.size w8.heap.size [0] [] [] (1 - 2 * bs) [QX] _ _ _ _ hs8 from by
   have z1:=pF.out.size
   have z4:=zl.out.size
   have z2:=wS.out.size
   have z3:=Yh.out.size
   have hz:w.heap.size<=w7.heap.size:=by omega
   refine⟨iL w8 _,by omega,Fa rfl (by omega) ((wR.out.fr wS.out aj).fr DC.out aj),⟨none,0,rfl,.inl rfl⟩,⟨none,0,rfl,.inl rfl⟩,iU (Wm.out.alloc _) hz,w8.heap.size,by simp,?_⟩
   intro j l hj
   obtain⟨vO,vX,a1,a2,a3,a4,a5,a6,a7,a8⟩:=HL8.out j l hj
   exact⟨vO,vX,a1,a2,a3,a4,iU (a5.alloc _) hz,iU (a6.alloc _) hz,a7,a8⟩)
  go_wp2
  go_ret
  exact⟨_,_,_,_,_,_,rfl,GA.out,Fz.out⟩)
theorem Q2 {s:ByteArray}{n k:Nat}(hk:k<cn s n):iP (jd s n) k<n:=by
 have:=qN (lI s n) hk (by have:=(jA s n).2.1;unfold cn;omega);rw[lE]at this;exact this
theorem Q3 {s:ByteArray}{n:Nat}(h:Dec.Ends s n)(hn:0<n){bs:Int}(hb:bs=0\/bs=1)(W Br:List Int):clP (bnd s n) (Ie s n bs Br) (wl s W n) (cn s n)=Yy (Dec.pos s) (iP (jd s n)) (AO s n bs Br) W (cn s n):=by
 rw[clP,Yy];refine List.map_congr_left (fun k hk=>?_);have hk:=cE.1 hk;have hl:=(jA s n).2.1;have hk1:k<(jd s n).length/\k+1<(jd s n).length:=by unfold cn at hk;omega
 have hkb:k<(jF s n).length:=by rw[<-oU hn];exact hk
 rw[abM,nk h hk1.1,nk h hk1.2,VV hn W hk,Ie,Jm hkb,<-Cb hn hkb,xY (by rw[nC _ _ _ hb,oG];exact Q2 hk)];rfl
theorem MO {s:ByteArray}{n:Nat}{Br:List Int}(E:rP s n Br)(hc:cn s n<=400)(bs:Int)(W:List Int):∀l∈Ic s n bs W Br (Br.length+1),l.o.length<=1000/\l.x.length<=1001:=fun l hl=>by
 obtain⟨j,hj,rfl⟩:=dX.1 hl;have hj:=cE.1 hj;have h1:=E.le (j+1) (by omega);have h2:kV s n Br (j+1) - kV s n Br j<=1000:=by unfold kV;omega
 unfold EZ;dsimp only;rw[cP,rH,zh];omega
theorem MP {s:ByteArray}{n:Nat}{K:List Int}{b:Int}{W Br:List Int}(hc:Tm s n K b W Br=0):s.size<=400/\(b=0\/b=1\/b=2):=by
 unfold Tm at hc;by_cases h1:400<s.size
 ·rw[aE h1]at hc;cases hc
 ·rw[ay h1]at hc
  by_cases h2:b<0\/2<b
  ·rw[aE h2]at hc;cases hc
  ·exact⟨by omega,by omega⟩
structure Twin (s:ByteArray)(b:Int)(W Br:List Int)(Bd V X:List Int)(r bs:Int)(Cs:List (Int × Int × Int × Int))(Ls:List Ln):Prop where
 vx:X.length=V.length
 bd:Bd.length=V.length+1
 vl:V.length<=400
 cs:clP Bd V X V.length=Cs
 l0:0<Ls.length
 l1:Ls.length<=400
 ll:∀l∈Ls,l.o.length<=1000/\l.x.length<=1001
 p:∀w vW vB,Floor w->F8 w vW W->zy w vB Br->Calls prog 66 #[.agg #[.string s,.int .i64 b,vW,vB]] w fun e w'=>∃P v0 v1 v2 vL hs,e=.returned (.pointer (some ⟨P,0,none⟩))/\LP w' w.heap.size P Bd V X r Ls v0 v1 v2 vL hs/\Fr [] w w'
end Go.Proofs.YtnakejhohdbfdacGreatDoor

import Derived.Test.YtnakejhohdbfdaaGreatDoorVap
set_option maxHeartbeats 8000000
set_option maxRecDepth 10000
set_option linter.unusedSimpArgs false
namespace Go.Proofs.YtnakejhohdbfdaaGreatDoor
open Go.RowKit jN Go.Proofs.Tryz
theorem wZ (N:Nat):∀(l:List Nat) (lo:Nat),l.Pairwise (· < ·)->(∀x∈l,lo<=x/\x<N)->l.length<=N - lo
 | [],_,_,_=>by simp
 | a :: l,lo,hs,h=>by
   have ha:=h a bA;rw[dQ]at hs;have:=wZ N l (a+1) hs.2 (fun x hx=>⟨hs.1 x hx,(h x (cP _ hx)).2⟩);rw[bO];omega
theorem XX {K:List Int}{rs:List (List Nat)}(h:jy K rs){i:Nat}(hi:i<rs.length):(ch K rs i).length<=K.length:=by
 refine wZ K.length _ 0 (sD h _ i hi) (fun x hx=>⟨aH _,?_⟩);obtain⟨j,_,hj,hx⟩:=uI h _ i hi x hx;exact(h.mem hj hx).1
def QE (o:Option Nat):Int:=match o with | none=>-1 | some m=>m
theorem wY.iS {w w':World}{B:Nat}{v:Value}{rs:List (List Nat)}(h:wY w B v rs)(hf:Fr [] w w'):wY w' B v rs :=
 ⟨h.1,h.2.1,fun o cap hv j hj=>by
  obtain⟨g,c,a1,a2,a3⟩:=h.2.2 o cap hv j hj
  exact⟨g,c,hf.cell a1 af,a2,fS a3 hf⟩⟩
theorem MO {K:List Int}{rs:List (List Nat)}{t:Nat}(h:jQ K rs (run rs t) rs.length=none):rest K rs t=[]:=by rw[rest,h]
theorem MP {K:List Int}{rs:List (List Nat)}{t j:Nat}(h:jQ K rs (run rs t) rs.length=some j):rest K rs t=ch K rs j:=by rw[rest,h]
theorem uY {w wr:World}{B o cap n:Nat}{rs:List (List Nat)}(h:wY w B (.slice (some ⟨o,0,none⟩) n cap) rs)(hn:n=rs.length)(hf:Fr [] w wr){j:Nat}(hj:j<n) :
 ∃g c,wr.cell? ⟨o,j,none⟩=some (.slice (some ⟨g,0,none⟩) (run rs j).length c)/\wr.ownsRow B 3 1 (.slice (some ⟨g,0,none⟩) (run rs j).length c) (run rs j).length (gz (run rs j)):=by
 subst hn;obtain⟨g,c,a1,a2,a3⟩:=(h.iS hf).2.2 o cap rfl j hj;exact⟨g,c,a1,a3⟩
def UJ (n:Nat)(x:Int):Nat:=if x<0 then 0 else n - x.toNat+1
theorem QF (n:Nat):UJ n (-1)=0:=rfl
theorem CC (n t:Nat):UJ n (t:Int)=n - t+1:=by rw[UJ,au (by omega)];rfl
theorem MQ (q:PH)(C L:List Int)(w:World)(hK:q.K.length=q.n)(hn:q.n<=1000000)(G:List Bool)(hG:∀i,i<q.n->(G[i]?).getD false=gone (nth q.K i))(hM:KX q)(hs:PS w q C L G) :
 Calls prog 45 #[.pointer (some ⟨q.p,0,none⟩)] w fun e w'=>∃v,e=.returned v/\wY w' w.heap.size v (ny q.K (ig q.K L q.K.length))/\Fr [] w w':=by
 obtain⟨i0,hi,hz0,hz1,hz2⟩:=e_ info3;obtain⟨i1,hi1,hy0,hy1,hy2⟩:=e_ O7;have Fy:=hid (oK q.K L);have hshort:=(oF q.K L q.K.length);have Te:=hid hshort.2;have hsh:=hshort.1;have HR:=hid (MN q C L w hK hn G hG hs);have HS:=hid hs;have HK:=hid hK;have HM:=hid hM;generalize ig q.K L q.K.length=rs at *;obtain⟨Z,hZ⟩:∃Z,Z=ny q.K rs:=⟨_,rfl⟩;rw[<-hZ];have HZ:=hid hZ;rw[hK]at hsh;clear hs hG hK hZ hM hshort;go_enter func45,ntmps45;go_wp2_with fail;refine HR.out.mono ?_;rintro e' W ⟨v,rfl,hv,hfw⟩;have WH:=hid hfw;have Je:=hid (HS.out.iS hfw);have HV:=hid hv;obtain⟨n,hn'⟩:∃n,n=rs.length:=⟨_,rfl⟩;have HN:=hid hn';rw[<-hn']at hsh
 rcases aS n with h0 | h0
 ·have hnil:=hv.1 (by rw[<-hn'];exact h0)
  subst hnil;have HZ2:=hid (show Z=[] by rw[HZ.out,ny,<-hn',h0];rfl);clear hv hn' hfw HR;go_wp2;go_loopw [4,5] (fun a b wr=>a=.slice none 0 0/\b=.int .i64 0/\Hid (Fr [] W wr)) (fun _ _ _=>0)
  case atStart=>exact⟨rfl,rfl,hid (Fr.refl _ _)⟩
  case round =>
   obtain⟨rfl,rfl,HF⟩:=hrel;go_wp2;go_ret;refine⟨_,rfl,?_,WH.out.trans HF.out⟩;rw[HZ2.out];exact⟨fun _=>rfl,fun h=>absurd h (by simp),fun o cap h j hj=>absurd hj (by simp)⟩
 ·obtain⟨o,cap,hv2,hoB⟩:=hv.2.1 (by rw[<-hn'];exact h0)
  rw[<-hn']at hv2;subst hv2;clear hv hn' hfw HR;go_wp2;go_loopw [4,5] (fun v ii wr=>∃(i B:Nat) (hs:List Value),ii=.int .i64 i/\i<=n/\Hid (RW W wr v (jZ q.K rs i) hs B)/\Hid ((jZ q.K rs i).length<=i)) (fun _ ii _=>n - (intOf ii).toNat)
  case atStart=>exact⟨0,_,_,rfl,aH _,hid (RW.start W),hid (ak _)⟩
  case round =>
   obtain⟨i,B,hs,rfl,hin,HRW,IB⟩:=hrel;by_cases hlt:i<n
   ·have mN:=hid (show jZ q.K rs (i+1)=if oq q.K rs (run rs i) rs.length then jZ q.K rs i++[ch q.K rs i]else jZ q.K rs i from rfl)
    rw[<-HN.out]at mN;generalize jZ q.K rs i=ss at *;obtain⟨a1,c1,hv1⟩:=gA HRW.out.own;obtain⟨sl,hsl⟩:∃sl,sl=ss.length:=⟨_,rfl⟩;rw[<-hsl]at hv1;subst hv1;have XY:=hid hsl;clear hsl;have DA:=hid (fun j (hj:j<n)=>bB.2 (Fy.out.ne j (by rw[<-HN.out];exact hj)));have HRL:=hid (fun j (hj:j<n)=>Te.out _ (kU (rs:=rs) (i:=j) (by rw[<-HN.out];exact hj)));have aa_:=hid (fun j (hj:j<n)=>(show gN (run rs j)<q.n by rw[<-HK.out];exact(Fy.out.mem (by rw[<-HN.out];exact hj) (jI (Fy.out.ne j (by rw[<-HN.out];exact hj)))).1));go_wp2;go_loopw [6,7,8] (fun bb jj _ wx=>∃(j:Nat),bb=.bool (oq q.K rs (run rs i) j)/\jj=.int .i64 j/\j<=n/\Hid (RW W wx (.slice a1 sl c1) ss hs B)/\Hid (Fr [] W wx)) (fun _ jj _ _=>n - (intOf jj).toNat)
    case atStart=>exact⟨0,rfl,rfl,aH _,HRW,hid HRW.out.fr⟩
    case round =>
     obtain⟨j,rfl,rfl,hjn,KZ,tG⟩:=hrel;by_cases hjl:j<n
     ·skip
      obtain⟨g1,k1,e1,o1⟩:=uY HV.out HN.out tG.out hjl;obtain⟨g2,k2,e2,o2⟩:=uY HV.out HN.out tG.out hlt;have Mg:=hid (fun(w':World) (hf:Fr [] wr w')=>ED q C L G g1 k1 g2 k2 (run rs j) (run rs i) w' ((Je.out.iS tG.out).iS hf) ((jJ o1 rfl).fr hf af) ((jJ o2 rfl).fr hf af) (DA.out j hjl) (DA.out i hlt) (by have:=HRL.out j hjl;rw[HK.out]at this;omega) (aa_.out j hjl) HM.out);have UK:=hid (show oq q.K rs (run rs i) (j+1)=(oq q.K rs (run rs i) j && !follows q.K (run rs j) (run rs i))from rfl);have Io:(j:Int)<(n:Int):=by omega
      have sY:(i:Int)<(n:Int):=by omega
      clear o1 o2;generalize follows q.K (run rs j) (run rs i)=fo at *;generalize (run rs j).length=lj at *;generalize (run rs i).length=li at *;generalize oq q.K rs (run rs i) j=fj at *;cases fj <;> cases fo
      all_goals (
       go_wp2
       go_quiet (first | (go_at_call 86;exact Calls.quiet_of (Mg.out _ ((Fr.refl [] wr).drewN _))))
       go_wp2
       go_roundw
       case rel=>exact⟨j+1,by rw[UK.out] <;> rfl,by go_num,by omega,hid (KZ.out.iS (iD _ _ _ rfl rfl rfl rfl)),hid (tG.out.trans (iD _ _ _ rfl rfl rfl rfl))⟩
       case measure=>simp[intOf];omega)
     ·have DI:j=n:=by omega
      have Io:¬(j:Int)<(n:Int):=by omega
      cases hfr:oq q.K rs (run rs i) j
      ·have iA:=hid (show jZ q.K rs (i+1)=ss by rw[mN.out,<-DI,hfr];rfl)
       clear DI hfr mN;go_wp2;go_roundw
       case rel=>exact⟨i+1,_,_,by go_num,by omega,hid (by rw[iA.out];exact KZ.out),hid (by rw[iA.out];have:=IB.out;omega)⟩
       case measure=>simp[intOf];omega
      ·have iA:=hid (show jZ q.K rs (i+1)=ss++[ch q.K rs i] by rw[mN.out,<-DI,hfr];rfl)
       clear DI hfr mN;obtain⟨g2,k2,e2,o2⟩:=uY HV.out HN.out tG.out hlt;have sY:(i:Int)<(n:Int):=by omega
       have hoW:=eS _ _ e2;dsimp only at hoW;have hrl:=HRL.out i hlt;rw[HK.out]at hrl;have UL:=hid (ch_eq Fy.out (show i<rs.length by rw[<-HN.out];exact hlt));have hcl:=XX Fy.out (show i<rs.length by rw[<-HN.out];exact hlt);rw[HK.out]at hcl;have hR0:=DA.out i hlt;obtain⟨R,hR⟩:∃R,R=run rs i:=⟨_,rfl⟩;rw[<-hR]at e2 o2 hrl UL hR0;obtain⟨CH,hCH⟩:∃CH,CH=ch q.K rs i:=⟨_,rfl⟩;rw[<-hCH]at UL hcl iA;have iG:=hid o2;obtain⟨lr,hlr⟩:∃lr,lr=R.length:=⟨_,rfl⟩;rw[<-hlr]at e2 iG hrl;have ZK:=hid hlr;clear hR hCH o2 hlr;go_wp2_with (at_builtin;refine eV _ rfl _ _ 22 rfl wr.heap.size 3 i0 _ 1 8 underlying22 hi hz0 hz1 hz2 rfl (by decide) _ 0 [] rfl ?own _ lr _ (gz R) rfl (by rw[ou,dS];exact ZK.out.symm) ?cc (Ec _) (by unfold maxLen;omega) (by omega) (by simp) ?_)
       case own=>exact fE (base:=wr.heap.size) (e:=3) (size:=1) wr #[] 0 (ak _) (by decide) rfl
       case cc=>intro j u hu;rw[<-c_ j,<-Addr.add_lit];exact(fS iG.out ((Fr.refl [] wr).alloc _)).cells rfl j u hu
       intro v' w3 gM hgrow hnil;have iO:=hid (((Fr.refl [] wr).alloc _).grown hgrow (fun k h=>by cases h;exact ak _))
       try simp only[c_,bU]at gM
       have k9:=hid gM;clear gM hgrow hnil;have akg:=hid (KZ.out);go_wp2;go_loopw [9,10] (fun vs aa wx=>∃(X:List Nat) (x:Int),aa=.int .i64 x/\Hid (Fr [] wr wx)/\Hid (wx.ownsRow wr.heap.size 3 1 vs X.length (gz X))/\0<X.length/\((x=-1/\Hid (CH=X))\/(∃t:Nat,x=t/\t<n/\Hid (CH=X++rest q.K rs t)))) (fun _ aa _=>UJ n (intOf aa))
       case atStart=>exact⟨R,i,rfl,iO,hid (by rw[<-ZK.out];exact k9.out),hR0,.inr ⟨i,rfl,hlt,UL⟩⟩
       case round =>
        obtain⟨X,x,rfl,Pa,HOY,hX0,hx⟩:=hrel;have Ay:=hid (tG.out.trans Pa.out);obtain⟨gx,cx,hvx⟩:=fR hX0 HOY.out;subst hvx
        rcases hx with⟨rfl,ZM⟩ | ⟨t,rfl,htn,ZM⟩
        ·have hxl:X.length<=q.n:=by rw[<-ZM.out];exact hcl
         obtain⟨lx,hlx⟩:∃lx,lx=X.length:=⟨_,rfl⟩;have ZN:=HOY;rw[<-hlx]at ZN hxl ⊢;have HLX:=hid hlx;clear hlx;have UE:=hid (KZ.out.iS Pa.out);have hsl2:=IB.out;rw[<-XY.out]at hsl2;go_wp2_with (at_builtin;refine eV _ rfl _ _ 98 rfl W.heap.size 22 i1 _ 1 24 underlying98 hi1 hy0 hy1 hy2 rfl (by decide) _ sl hs rfl ?own _ 1 1 [.slice (some ⟨gx,0,none⟩) lx cx] rfl rfl (iC _ _ _ _ (by simp)) (FD _ rfl) (by unfold maxLen;omega) (by omega) ?nY ?_)
         case own=>exact fS (by have:=UE.out.own;rw[<-XY.out]at this;exact this) ((Fr.refl [] _).alloc _)
         case nY=>have:=UE.out.fr.size;simp;omega
         intro v' w3 gM hgrow hnil;have HR3:=hid (KZ.out.new (r:=X) (Pa.out.alloc _) HLX.out (ZN.out.alloc _) (by rw[<-XY.out];exact gM) hgrow);clear gM hgrow hnil;go_wp2;go_roundw
         case rel=>exact⟨i+1,_,_,by go_num,by omega,hid (by rw[iA.out,ZM.out];exact HR3.out),hid (by rw[iA.out,aG];have:=IB.out;simp;omega)⟩
         case measure=>simp[intOf];omega
        ·have hxt:¬((t:Int)<0):=by omega
         have T5:(t:Int)<(n:Int):=by omega
         have O_:=hid (show X.length<=q.n by have h:=hcl;rw[ZM.out,aG]at h;omega);go_wp2;go_loopw [11,12,13] (fun nn jj _ wz=>∃(j:Nat),nn=.int .i64 (QE (jQ q.K rs (run rs t) j))/\jj=.int .i64 j/\j<=n/\Hid (Fr [] wr wz)) (fun _ jj _ _=>n - (intOf jj).toNat)
         case atStart=>exact⟨0,rfl,rfl,aH _,hid (Fr.refl _ _)⟩
         case round =>
          obtain⟨j,rfl,rfl,aki,QG⟩:=hrel;have HFQ:=hid (Ay.out.trans QG.out);by_cases Cv:j<n
          ·obtain⟨g1,k1,e1,o1⟩:=uY HV.out HN.out HFQ.out htn
           obtain⟨g2',k2',e2',o2'⟩:=uY HV.out HN.out HFQ.out Cv;have Mg:=hid (fun(w':World) (hf:Fr [] wr w')=>ED q C L G g1 k1 g2' k2' (run rs t) (run rs j) w' ((Je.out.iS HFQ.out).iS hf) ((jJ o1 rfl).fr hf af) ((jJ o2' rfl).fr hf af) (DA.out t htn) (DA.out j Cv) (by have:=HRL.out t htn;rw[HK.out]at this;omega) (aa_.out t htn) HM.out);have UK:=hid (show jQ q.K rs (run rs t) (j+1)=if follows q.K (run rs t) (run rs j)then some j else jQ q.K rs (run rs t) j from rfl);have Io:(j:Int)<(n:Int):=by omega
           clear o1 o2' e2;generalize follows q.K (run rs t) (run rs j)=fo at *;generalize (run rs j).length=lj at *;generalize (run rs t).length=lt at *;generalize jQ q.K rs (run rs t) j=nj at *;cases fo
           all_goals (
            go_wp2
            go_quiet (first | (go_at_call 86;exact Calls.quiet_of (Mg.out _ ((Fr.refl [] wr).drewN _))))
            go_wp2
            go_roundw
            case rel=>exact⟨j+1,by rw[UK.out] <;> rfl,by go_num,by omega,hid (QG.out.trans (iD _ _ _ rfl rfl rfl rfl))⟩
            case measure=>simp[intOf];omega)
          ·have DI:j=rs.length:=by rw[<-HN.out];omega
           have Io:¬(j:Int)<(n:Int):=by omega
           cases hnx:jQ q.K rs (run rs t) j with
           | none =>
             have UM:=hid (show CH=X by rw[DI]at hnx;rw[ZM.out,MO hnx,cD]);clear hnx DI;dsimp only[QE];go_wp2;go_roundw
             case rel=>exact⟨X,-1,rfl,hid (Pa.out.trans QG.out),hid (fS HOY.out QG.out),hX0,.inl ⟨rfl,UM⟩⟩
             case measure=>simp only[intOf];rw[QF,CC];omega
           | some j' =>
             rw[DI]at hnx;obtain⟨hj1,hj2⟩:=jq _ _ hnx;have afa:=Fy.out.later (show t<rs.length by rw[<-HN.out];exact htn) hj1 hj2;have aba:j'<n:=by rw[HN.out];exact hj1
             have UM:=hid (show CH=(X++run rs j')++rest q.K rs j' by rw[ZM.out,MP hnx,ch_eq Fy.out hj1,dx]);obtain⟨g3,k3,e3,o3⟩:=uY HV.out HN.out HFQ.out aba;have hXX:X.length+(run rs j').length<=q.n:=by have h:=hcl;rw[UM.out,aG,aG]at h;omega
             have k9:=hid o3;have akj:(j':Int)<(n:Int):=by omega
             clear hnx DI hj1 hj2 o3;generalize run rs j'=R3 at *;obtain⟨l3,hl3⟩:∃l3,l3=R3.length:=⟨_,rfl⟩;rw[<-hl3]at e3 k9 hXX;have Iz:=hid hl3;obtain⟨lx,hlx⟩:∃lx,lx=X.length:=⟨_,rfl⟩;have ZN:=hid (fS HOY.out QG.out);rw[<-hlx]at ZN hXX ⊢;have HLX:=hid hlx;clear hl3 hlx e2;dsimp only[QE];go_wp2_with (at_builtin;refine eV _ rfl _ _ 22 rfl _ 3 i0 _ 1 8 underlying22 hi hz0 hz1 hz2 rfl (by decide) _ lx (gz X) rfl ZN.out _ l3 _ (gz R3) rfl (by rw[ou,dS];exact Iz.out.symm) ?cc (Ec _) (by unfold maxLen;omega) (by omega) ?nY ?_)
             case cc=>intro j u hu;rw[<-c_ j,<-Addr.add_lit];exact k9.out.cells rfl j u hu
             case nY=>have h1:=Pa.out.size;have h2:=QG.out.size;omega
             intro v' w3 gM hgrow hnil;have Jz:=hid ((Pa.out.trans QG.out).grown hgrow (fun k h=>(ZN.out.lt k h).1));have jD:=hid (show w3.ownsRow _ 3 1 v' (X++R3).length (gz (X++R3)) by rw[aG,<-Ly,<-HLX.out,<-Iz.out];exact gM);clear gM hgrow hnil;go_wp2;go_roundw
             case rel=>exact⟨X++R3,j',rfl,Jz,jD,by rw[aG];omega,.inr ⟨j',rfl,aba,UM⟩⟩
             case measure=>simp only[intOf];rw[CC,CC];omega
   ·have hie:i=n:=by omega
    have zq:=hid (show RW W wr _ Z hs B by rw[HZ.out,ny,<-HN.out,<-hie];exact HRW.out);clear hie HRW;have sY:¬(i:Int)<(n:Int):=by omega
    go_wp2;go_ret;refine⟨_,rfl,?_,WH.out.trans zq.out.fr⟩;have h:=zq.out.rows;have hle:=WH.out.size;refine⟨h.1,fun hp=>?_,fun o cap hv j hj=>?_⟩
    ·obtain⟨o,cap,a1,a2⟩:=h.2.1 hp
     exact⟨o,cap,a1,by omega⟩
    ·obtain⟨g,c,a1,a2,a3⟩:=h.2.2 o cap hv j hj
     exact⟨g,c,a1,by omega,gY a3 hle⟩
end Go.Proofs.YtnakejhohdbfdaaGreatDoor

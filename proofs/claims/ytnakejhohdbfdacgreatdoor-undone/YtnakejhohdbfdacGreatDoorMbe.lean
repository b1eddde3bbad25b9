import Derived.Lib.AppendZerosOnto
import Derived.Test.YtnakejhohdbfdacGreatDoorMbd
set_option maxHeartbeats 4000000
set_option maxRecDepth 100000
namespace Go.Proofs.YtnakejhohdbfdacGreatDoor
open Go.RowKit j9 Lay pS Go.Proofs.Tryz
theorem Qz (n:Nat)(w:World)(h0:0<n)(hn:n<=10000):Calls prog 134 #[.slice none 0 0,.int .i64 n] w fun e w'=>∃g c,e=.returned (.slice (some ⟨g,0,none⟩) 0 c)/\w'.ownsRow w.heap.size 3 1 (.slice (some ⟨g,0,none⟩) 0 c) 0 []/\Fr [] w w':=by
 have tb:Tryz.t3.bytes=8:=by kernel_rfl
 have hfit:=growslice_fits (old:=0) h0 (show n * 8<=140737488355328 by omega);have hA:¬(281474976710656:Int)<(n:Int) * (Tryz.t3.bytes:Int):=by rw[tb];omega
 have hB:¬ 281474976710656<Builtin.nextslicecap n 0 * Tryz.t3.bytes:=by rw[tb];omega
 have hge:=grownCap_ge w n 0 3;have hle:=grownCap_le_maxLen w n 0 3 (by unfold maxLen;omega)
 have HO:=hid (show ∀cs:Array Value,cs.size=grownCap w n 0 3->((w.alloc (.cells cs 3)).drew).ownsRow w.heap.size 3 1 (.slice (some ⟨w.heap.size,0,none⟩) 0 (grownCap w n 0 3)) 0 []from fun cs hcs =>
  ⟨rfl,.inr ⟨w.heap.size,_,cs,rfl,au _,iL w _,aN _,hle,by omega,by simp⟩⟩)
 have h1:¬((n:Int)<0):=by omega
 have h4:(0:Int)<(n:Int):=by omega
 have h5:¬n=0:=by omega
 have HGE:=hid hge;clear tb hfit hge hle;go_enter func134,ntmps134;go_wp2;go_ret;exact⟨_,_,rfl,HO.out _ (by rw[Array.size_append,size_zeroCells,size_zeroCells];have:=HGE.out;show n * 1+(grownCap w n 0 3 - n) * 1=grownCap w n 0 3;omega),Xw w _⟩
def zy (w:World)(v:Value)(l:List Int):Prop:=∃a c,v=.slice a l.length c/\((a=none/\c=0/\l.length=0)\/∃ad:Addr,a=some ad/\∀i,i<l.length->w.cell? (ad.add i)=some (.int .i64 (nth l i)))
theorem cell_spot {w:World}{a:Addr}{v:Value}(h:w.cell? a=some v):a=⟨a.block,a.off,none⟩:=by
 obtain⟨b,o,sp⟩:=a;cases sp with
 | none=>rfl
 | some x =>
   unfold World.cell? at h;split at h
   ·simp at h
   ·cases h
theorem qm {w w':World}{a:Addr}{v:Value}(hf:Fr [] w w')(h:w.cell? a=some v):w'.cell? a=some v:=by
 have e:=cell_spot h;rw[e]at h ⊢;exact hf.cell h aj
theorem zy.fr {w w':World}{v:Value}{l:List Int}(h:zy w v l)(hf:Fr [] w w'):zy w' v l:=by
 obtain⟨a,c,h1,h2⟩:=h;refine⟨a,c,h1,h2.imp id ?_⟩;rintro ⟨ad,h3,h4⟩;exact⟨ad,h3,fun i hi=>qm hf (h4 i hi)⟩
theorem zy.at {w:World}{v:Value}{l:List Int}(h:zy w v l):F8 w v l:=by
 obtain⟨a,c,h1,h2⟩:=h;refine⟨a,c,h1,?_⟩
 rcases h2 with⟨_,_,h3⟩ | ⟨ad,rfl,h4⟩
 ·exact .inl h3
 ·by_cases h0:l.length=0
  ·exact .inl h0
  ·have e:=cell_spot (h4 0 (by omega))
   have e0:ad.add 0=ad:=rfl;rw[e0]at e;obtain⟨b,o,sp⟩:=ad;simp only[Addr.mk.injEq,true_and]at e;subst e;exact .inr ⟨b,o,rfl,fun i hi=>by have:=h4 i hi;rwa [Addr.add_lit]at this⟩
def kJ (L:Nat->List Int):Nat->List Int
 | 0=>[]
 | k+1=>kJ L k++L k
theorem CS (L:Nat->List Int):∀ {k j:Nat},k<=j->(kJ L k).length<=(kJ L j).length
 | k,0,h=>by obtain rfl:k=0:=by omega
             exact au _
 | k,j+1,h=>by
   rcases aH h with h1 | h1
   ·have:=CS L (k:=k) (j:=j) (by omega);rw[kJ,aD];omega
   ·rw[h1];exact au _
theorem Jt (l:List Int):∀u∈iS l,u.oneCell'=true:=by
 intro u hu;obtain⟨x,_,rfl⟩:=dX.1 hu;rfl
theorem Ju (L:Nat->List Int)(H:Nat->Value)(gs cs m:Nat)(w:World)(hm:m<=10)(hc:∀i,i<m->w.cell? ⟨gs,i,none⟩=some (H i))(hs:∀i,i<m->zy w (H i) (L i))(h0:0<(kJ L m).length)(hl:(kJ L m).length<=6000) :
 Calls prog 110 #[.slice (some ⟨gs,0,none⟩) m cs] w fun e w'=>∃g c,e=.returned (.slice (some ⟨g,0,none⟩) (kJ L m).length c)/\w'.ownsRow w.heap.size 3 1 (.slice (some ⟨g,0,none⟩) (kJ L m).length c) (kJ L m).length (iS (kJ L m))/\Fr [] w w':=by
 obtain⟨i0,hi,hz0,hz1,hz2⟩:=fY info3;have HC:=hid hc;have HS:=hid hs;have HG:=hid (fun X=>Qz (kJ L m).length X h0 (by omega));have HCM:=hid (fun k (hk:k<=m)=>CS L hk);obtain⟨N,hN⟩:∃N,N=(kJ L m).length:=⟨_,rfl⟩;rw[<-hN]at h0 hl HG HCM ⊢;have HN:=hid hN;clear hc hs hN;go_enter func110,ntmps110;go_wp2_with fail;go_loop [3,11] (fun zz kk=>∃k:Nat,kk=.int .i64 k/\k<=m/\zz=.int .i64 ((kJ L k).length:Nat)) (fun _ kk=>m - (intOf kk).toNat)
 case atStart=>exact⟨0,rfl,aN _,rfl⟩
 case round =>
  obtain⟨k,rfl,hkm,rfl⟩:=hrel;by_cases hkl:k<m
  ·have wX:(k:Int)<(m:Int):=by omega
   have d0:=HC.out k hkl;obtain⟨a,c,hH,_⟩:=HS.out k hkl;rw[hH]at d0;have h1:=HCM.out (k+1) (by omega);have qP:=hid (show(kJ L (k+1)).length=(kJ L k).length+(L k).length by rw[kJ,aD]);rw[qP.out]at h1;generalize (kJ L k).length=lk at *;generalize (L k).length=ll at *;have hz:¬((lk:Int)+(ll:Int))<0:=by omega
   clear hH;go_wp2;go_round
   case rel=>exact⟨k+1,by go_num,by omega,by rw[qP.out];go_num⟩
   case measure=>simp[intOf];omega
  ·obtain rfl:k=m:=by omega
   rw[<-HN.out];go_wp2_with fail;refine(HG.out _).mono ?_;rintro e w1 ⟨g1,c1,rfl,sY,hf1⟩;have lT:=hid sY;have jc:=hid hf1;clear sY hf1 HG;go_wp2_with fail;go_loopw [6,27] (fun vv kk wr=>∃(t g c:Nat),kk=.int .i64 t/\t<=k/\vv=.slice (some ⟨g,0,none⟩) (kJ L t).length c/\Hid (wr.ownsRow w.heap.size 3 1 (.slice (some ⟨g,0,none⟩) (kJ L t).length c) (kJ L t).length (iS (kJ L t)))/\Hid (Fr [] w wr)) (fun _ kk _=>k - (intOf kk).toNat)
   case atStart=>exact⟨0,g1,c1,rfl,aN _,rfl,lT,jc⟩
   case round =>
    obtain⟨t,g,c,rfl,htk,rfl,HO,HF⟩:=hrel;by_cases htl:t<k
    ·have V6:(t:Int)<(k:Int):=by omega
     have d0:=HF.out.cell (HC.out t htl) aj;obtain⟨a,ch,hH,hx⟩:=(HS.out t htl).fr HF.out;rw[hH]at d0;have h1:=HCM.out (t+1) (by omega);have qP:=hid (show(kJ L (t+1)).length=(kJ L t).length+(L t).length by rw[kJ,aD]);rw[qP.out]at h1;have hsz:=HF.out.size;have D2:=hid (show(iS (L t)).length=(L t).length * 1 by simp);have HIS:=hid (show iS (kJ L (t+1))=iS (kJ L t)++iS (L t) by rw[kJ];simp);have afa:=hid (show(L t).length=0->kJ L (t+1)=kJ L t from fun h=>by rw[kJ,dY.1 h,dh]);generalize hlk:(kJ L t).length=lk at *;generalize hll:(L t).length=ll at *;clear hH hlk hll
     rcases hx with⟨rfl,rfl,rfl⟩ | ⟨ad,rfl,hcells⟩
     ·have jO:=hid (show wr.ownsRow w.heap.size 3 1 (.slice (some ⟨g,0,none⟩) lk c) lk (iS (kJ L t))from HO.out)
      go_wp2_with (at_builtin;refine wpList_append_own_none rfl _ _ 32 rfl w.heap.size 3 i0 1 underlying32 hi _ lk _ rfl jO.out rfl ?_);go_wp2;go_roundw
      case rel=>exact⟨t+1,g,c,by go_num,by omega,by rw[qP.out,dM],hid (by rw[qP.out,dM,afa.out rfl];exact HO.out),HF⟩
      case measure=>simp[intOf];omega
     ·have HNW:=hid (show ∀j u,(iS (L t))[j]?=some u->wr.cell? (ad.add j)=some u from fun j u hu=>by
       have hj:=(aY.1 hu).1
       rw[D2.out,Nat.mul_one]at hj
       have hj2:j<(L t).length:=by have:=(aY.1 hu).1;simpa using this
       rw[k_ hj2]at hu
       rw[hcells j hj];exact hu)
      clear hcells;go_wp2_with (at_builtin;refine fV _ rfl _ _ 32 rfl w.heap.size 3 i0 _ 1 8 underlying32 hi hz0 hz1 hz2 rfl (by decide) _ lk _ rfl HO.out ad ll _ (iS (L t)) rfl D2.out HNW.out (Jt _) (by unfold maxLen;omega) (by omega) hsz ?_);intro v' w3 lK hgrow hnil;have hnn:v'≠.slice none 0 0:=hnil;obtain⟨g',c',hv'⟩:∃g' c',v'=.slice (some ⟨g',0,none⟩) (lk+ll) c':=by
       rcases lK.2 with⟨h5,_⟩ | ⟨g',c',cur,h5,_⟩
       ·exact absurd h5 hnn
       ·exact⟨g',c',h5⟩
      subst hv';have jQ:=hid (HF.out.grown hgrow (fun x h=>(HO.out.lt x h).1));have lD:=hid lK;clear lK hgrow hnil hnn;go_wp2;go_roundw
      case rel=>exact⟨t+1,g',c',by go_num,by omega,by rw[qP.out],hid (by rw[qP.out,HIS.out];exact lD.out),jQ⟩
      case measure=>simp[intOf];omega
    ·obtain rfl:t=k:=by omega
     rw[<-HN.out]at HO ⊢;go_wp2;go_ret;exact⟨g,c,rfl,HO.out,HF.out⟩
theorem Wn {s:ByteArray}{n:Nat}{Br:List Int}(E:rP s n Br){k:Nat}(hk:k<=Br.length+1):kV s n Br k<(jd s n).length:=by
 have h8:=E.le k hk;have h9:=(jA s n).2.1;have:cn s n<(jd s n).length:=by { unfold cn;omega }
 unfold kV;omega
theorem Yo {s:ByteArray}{n:Nat}(h:Dec.Ends s n){Br:List Int}(E:rP s n Br){i j:Nat}(hij:i<j)(hj:j<=Br.length+1):nth (CQ s Br) i<nth (CQ s Br) j:=by
 rw[zx h E (by omega),zx h E hj];exact Jr h (E.mono i j hij hj) (Wn E hj)
theorem MF {s:ByteArray}{n:Nat}(h:Dec.Ends s n){Br:List Int}(E:rP s n Br):jN (CQ s Br) ((s.size:Nat):Int):=by
 refine⟨bE.2 (fun i j hi hj hij=>?_),rfl,?_⟩
 ·have h1:=Yo h E hij (by rw[pP]at hj;omega)
  rw[nth,nth,aA hi,aA hj]at h1;exact h1
 ·rw[pP]
  simp[CQ]
theorem Ko {s:ByteArray}{i j:Nat}(h:Dec.pos s i=Dec.pos s j):i=j:=by
 rcases b8 i j with h1 | h1 | h1
 ·have:=Dec.kR s i j h1;omega
 ·exact h1
 ·have:=Dec.kR s j i h1;omega
theorem Un {s:ByteArray}{n:Nat}(h:Dec.Ends s n){Br:List Int}(E:rP s n Br)(j:Nat):(CQ s Br).contains ((Dec.pos s j:Nat):Int)=TF (jd s n) (bnd s n) Br j:=by
 have h0:∀k,k<=Br.length+1->nth (CQ s Br) k=((Dec.pos s (iP (jd s n) (kV s n Br k)):Nat):Int):=fun k hk=>by
  rw[zx h E hk,nk h (Wn E hk)]
 rw[Bool.eq_iff_iff,dU,TF,List.any_eq_true];constructor
 ·intro hm
  obtain⟨k,hk,he⟩:=List.mem_iff_getElem.1 hm;have hk2:k<Br.length+2:=by rw[pP]at hk;exact hk
  refine⟨k,cE.2 hk2,bQ ?_⟩;have h1:=h0 k (by omega);rw[nth,aA hk,dZ,he]at h1;exact(Ko (Int.ofNat.inj h1)).symm
 ·rintro ⟨k,hk,he⟩
  have hk2:=cE.1 hk;have h1:=h0 k (by omega);rw[show iP (jd s n) (kV s n Br k)=j from dD he]at h1;rw[<-h1];exact Be (by rw[pP];omega)
theorem Uo (s:ByteArray)(Br:List Int)(L:Nat->List Int)(h0:L 0=[0])(h1:L 1=Br)(h2:L 2=[((s.size:Nat):Int)]):kJ L 3=CQ s Br:=by
 simp[kJ,CQ,h0,h1,h2]
theorem rT {l:List Int}{i:Nat}(h:l.length<=i):nth l i=0:=by rw[nth,bN h];rfl
theorem QA {s:ByteArray}{Lv:List Int}{n:Nat}(h:∀i,0<=nth Lv i/\nth Lv i<=1000)(k:Nat):0<=nth (AP s Lv n) k/\nth (AP s Lv n) k<=1000:=by
 by_cases hk:k<(jF s n).length
 ·rw[Jm hk];exact h _
 ·rw[rT (by rw[uV];omega)];decide
open Go.Shelf
attribute [local go_sem] gy
def MG (w:World)(g n:Nat)(R:List Int)(p:Nat->Nat):Prop:=∀i,i<n->w.cell? ⟨g,i * 3,none⟩=some (.int .i32 (nth R i))/\w.cell? ⟨g,i * 3+1,none⟩=some (.int .i64 (p i:Nat))/\w.cell? ⟨g,i * 3+2,none⟩=some (.int .i64 (p (i+1):Nat))
theorem MG.fr {S:List Nat}{w w':World}{g n:Nat}{R:List Int}{p:Nat->Nat}(h:MG w g n R p)(hf:Fr S w w')(hg:g ∉ S):MG w' g n R p:=fun i hi =>
 ⟨hf.cell (h i hi).1 hg,hf.cell (h i hi).2.1 hg,hf.cell (h i hi).2.2 hg⟩
structure VT (gT n cT:Nat)(R:List Int)(p:Nat->Nat)(bx:Nat)(W:World):Prop where
 t:MG W gT n R p
 b:W.cell? ⟨bx,0,none⟩=some (.slice (some ⟨gT,0,none⟩) n cT)
theorem Up (gT n cT:Nat)(R:List Int)(p:Nat->Nat)(bx:Nat)(hn:n<=1000000)(m l:Nat)(V':Nat->World->Prop)(We:∀j A,V' j A->VT gT n cT R p bx A)
 (hY:∀j (x:Nat) A,V' j A->(j=x+1/\x<n)->YieldAt Fence.wide (m - 1) prog l #[.int .i64 x,.agg #[.int .i32 (nth R x),.int .i64 (p x:Nat),.int .i64 (p (x+1):Nat)]] A fun e B=>e=.returned (.bool true)/\V' x B) (W:World) (h0:V' n W) :
 CallsIn Fence.wide m prog 197 (#[.func (.yield l) #[] #[]]++#[.pointer (some ⟨bx,0,none⟩)]) W fun e B=>(∃v,e=.returned v)/\V' 0 B:=by
 have b:=(We _ _ h0).b;have E3:=hid We;have HY:=hid hY;have H0:=hid h0;clear We hY h0;refine callsIn_of_wp func197 rfl trivial ?_ rfl;simp only[ntmps197,cK,bg,List.length_nil,Nat.reduceAdd,Nat.reduceSub,bY,bZ,cN,b_,bT,bV];have hw0:IntKind.i64.wrap ((n:Int) - 1)=(n:Int) - 1:=by rw[fM];omega
 gi_wp2;clear b hw0;gi_loopw [3] (fun a wr=>∃(j:Nat),a=.int .i64 ((j:Int) - 1)/\j<=n/\Hid (V' j wr)) (fun a _=>(intOf a+1).toNat)
 case atStart=>exact⟨n,rfl,au _,H0⟩
 case round =>
  obtain⟨j,rfl,hj,HV⟩:=hrel
  rcases bO j with hj0 | hj0
  ·subst hj0
   gi_wp2;go_end0;exact⟨⟨_,rfl⟩,HV.out⟩
  ·obtain⟨x,rfl⟩:∃x,j=x+1:=⟨j - 1,by omega⟩
   have hx:((x+1:Nat):Int) - 1=(x:Int):=by omega
   rw[hx];have b:=(E3.out _ _ HV.out).b;obtain⟨t0,t1,t2⟩:=(E3.out _ _ HV.out).t x (by omega);have hxi:(x:Int)<(n:Int):=by omega
   have hx0:(0:Int)<=(x:Int):=by omega
   have hw0:IntKind.i64.wrap ((x:Int) - 1)=(x:Int) - 1:=by rw[fM];omega
   obtain⟨fn,tmps,assign,body,Ss,hR⟩:=HY.out (x+1) x wr HV.out ⟨rfl,by omega⟩;generalize nth R x=r at *;generalize p x=p0 at *;generalize p (x+1)=p1 at *;clear E3 HY hx;gi_wp2;refine⟨fun hd=>absurd hd (by decide),hR.mono ?_⟩;rintro e W3 ⟨rfl,Kw⟩;have Ft:=hid Kw;clear Kw;gi_wp2;go_roundw
   case rel=>exact⟨x,by simp,by omega,Ft⟩
   case measure=>simp[intOf]
theorem MH (gT n c:Nat)(w:World):Calls prog 145 #[.slice (some ⟨gT,0,none⟩) n c] w fun e w' =>
 e=.returned (.func (.func 197) #[] #[.pointer (some ⟨w.heap.size,0,none⟩)])/\w'=w.alloc (.cells #[.slice (some ⟨gT,0,none⟩) n c] 40):=by
 go_enter func145,ntmps145;go_wp2;go_ret;exact⟨by simp,rfl⟩
end Go.Proofs.YtnakejhohdbfdacGreatDoor
namespace Go.Proofs.YtnakejhohdbfdacGreatDoor
open Go.RowKit Go.Shelf Go.Proofs.Tryz
theorem vQ {σ α:Type}{F:Fence}{n:Nat}{P:Program}{g:Operand}{ps:Array Tmp}{assign body:Code}{Q:Exit->Act->World->Prop}{a:Act}{w:World}
 (hro:F.round=none) (h1:1<=n) {gf:Nat} {lb:Array Value} (hg:a.eval g=.func (.func gf) #[] lb) (hFg:F.fn gf) (eg:∀args w,(callFunc gf args).run P w=.ok (.enter gf args) w)
 {encs:α->Array Value} (hps:∀x,(encs x).size=ps.size)
 (V:σ->World->Prop) (hVs:∀s A,V s A->w.heap.size<=A.heap.size) (hV:∀s A B,V s A->Below w.heap.size A B->V s B) (ok:σ->α->Prop) (nx:σ->α->σ) (s0 s1:σ)
 (hseq:∀(l:Nat) (V':σ->World->Prop) (W:World),(∀s A,V' s A->V s A)->(∀s A B,V' s A->Fr [] A B->V' s B) ->
   (∀s x A,V' s A->ok s x->YieldAt F (n - 1 - 1) P l (encs x) A fun e B=>e=.returned (.bool true)/\V' (nx s x) B)->V' s0 W ->
   CallsIn F (n - 1) P gf (#[.func (.yield l) #[] #[]]++lb) W fun e B=>(∃v,e=.returned v)/\V' s1 B)
 (o:α->Obj) (a₁:α->Nat->Act) (h0:V s0 w)
 (hassign:∀(l:Nat) (x:α) (W:World) (K:Act->World->Prop),K (a₁ x W.heap.size) (W.alloc (o x)) ->
   assign.wpIn (F.inRound l) (n - 1 - 1) P (Exit.then K (fun _ _ _=>False)) { tmps:=(ps.zip (encs x)).foldl (fun t (p,v)=>t.setIfInBounds p v) a.tmps,defers:=[] } W)
 (hbody:∀(l:Nat) (s:σ) (x:α) (A:World) (b:Nat),V s A->ok s x->A.heap[b]?=some (o x)->w.heap.size+2<=b->body.wpIn (F.inRound l) (n - 1 - 1) P (Qe w.heap.size V (nx s x) A) (a₁ x b) A)
 (hdone:∀(D:Nat) (A:World),V s1 A->w.heap.size<=D->A.heap[D]?=some (.deferred (some []))->Q .normal { a with defers:={ target:=.collected D,args:=#[] } :: a.defers } A) :
 (Code.rangeFunc g ps assign body).wpIn F n P Q a w:=by
 refine wpIn_rangeFunc ?_;intro fn hfn;rw[hro];obtain⟨rec,hrec⟩:∃rec:LoopState->Option Code->Loop,rec=fun st pe=>{ state:=st,pending:=pe,fn,tmps:=a.tmps,params:=ps,assign,body,defers:=w.heap.size }:=⟨_,rfl⟩
 obtain⟨W1,hW1⟩:∃W1,(w.alloc (.deferred (some []))).alloc (.loop (rec .ready none))=W1:=⟨_,rfl⟩;have hL1:W1.heap[w.heap.size+1]?=some (.loop (rec .ready none)):=by
  rw[<-hW1];have:=fR (w.alloc (.deferred (some []))) (.loop (rec .ready none));rwa [fD]at this
 have hK1:W1.heap[w.heap.size]?=some (.deferred (some [])):=by
  rw[<-hW1];exact(fS _ _ _ (by simp)).trans (fR w _)
 have hI1:V s0 W1:=by
  rw[<-hW1];exact hV _ _ _ h0 (((fN _ w).alloc (au _) _).alloc (by simp) _)
 let V':σ->World->Prop:=fun s A=>V s A/\A.heap[w.heap.size+1]?=some (.loop (rec .ready none))/\A.heap[w.heap.size]?=some (.deferred (some []))
 refine⟨w.heap.size+1,[{ target:=.collected w.heap.size,args:=#[] }],W1,{ target:=.fn (.func gf) lb,args:=#[.func (.yield (w.heap.size+1)) #[] #[]] },W1,gf,
  #[.func (.yield (w.heap.size+1)) #[] #[]]++lb,W1,?_,?_,?_,?_,fun _=>h1,?_⟩
 ·rw[<-hW1,hrec];exact iC _ _ _ _ _
 ·simp only[resolve,hg]
  simp[go_sem]
 ·intro f' hf';simp[Target.leads]at hf';subst hf';exact hFg
 ·simp[invoke,go_sem,eg]
 ·refine(hseq (w.heap.size+1) V' W1 (fun s A h=>h.1) (fun s A B h hf=>?_) ?_ ⟨hI1,hL1,hK1⟩).mono ?_
  ·obtain⟨k1,k2,k3⟩:=h
   exact⟨hV _ _ _ k1 (zw hf (hVs _ _ k1)),(hf.block _ (aC.1 k2).1 aj).trans k2,(hf.block _ (aC.1 k3).1 aj).trans k3⟩
  ·rintro s x W ⟨hi,hl,hk⟩ hok
   have hlt:w.heap.size+1<W.heap.size:=(aC.1 hl).1;have hy:=run_yield (P:=P) (args:=encs x) hl (by rw[hrec];exact hps x);rw[hrec]at hy;have hla:(W.alloc (o x)).heap[w.heap.size+1]?=some (.loop (rec .ready none)):=(fS _ _ _ hlt).trans hl;refine⟨fn,_,assign,body,hy,roundIn_of_wpIn hfn (hassign _ x W _ ⟨_,run_beginRound hla (by rw[hrec]),?_⟩)⟩;have hlt2:w.heap.size+1<(W.alloc (o x)).heap.size:=by rw[fD];omega
   have hl2:((W.alloc (o x)).putObj (w.heap.size+1) (.loop { rec .ready none with state:=.busy })).heap[w.heap.size+1]?=some (.loop { rec .ready none with state:=.busy }):=fZ hlt2;have hk2:((W.alloc (o x)).putObj (w.heap.size+1) (.loop { rec .ready none with state:=.busy })).heap[w.heap.size]?=some (.deferred (some [])):=(fK (by omega)).trans ((fS _ _ _ (by omega)).trans hk);have hb2:((W.alloc (o x)).putObj (w.heap.size+1) (.loop { rec .ready none with state:=.busy })).heap[W.heap.size]?=some (o x):=(fK (by omega)).trans (fR W _);refine wpIn_mono (hbody _ s x _ W.heap.size (hV _ _ _ (hV _ _ _ hi ((fN _ W).alloc (by omega) _)) (jB (by omega) _)) hok hb2 (by omega)) ?_;rintro e a3 W3 hp;cases e with
   | normal =>
     obtain⟨hkeep,hi3⟩:=hp;have hl3:=(hkeep (w.heap.size+1) (by omega) (by rw[gA];exact hlt2)).trans hl2;have hk3:=(hkeep w.heap.size (by omega) (by rw[gA];omega)).trans hk2;have hr:=run_endRound (P:=P) none hl3;rw[hrec]at hr hl3;refine⟨_,_,hr,rfl,hV _ _ _ hi3 (jB (by omega) _),?_,(fK (by omega)).trans hk3⟩;rw[hrec];exact fZ (aC.1 hl3).1
   | ret=>exact hp.elim
   | exit id=>exact hp.elim
   | goto t=>exact hp.elim
   | panic ch=>exact hp.elim
   | outgrown=>exact hp.elim
  ·rintro e W2 ⟨⟨v,rfl⟩,hi,hl,hk⟩
   exact⟨none,_,by have:=run_endLoop (P:=P) hl (by rw[hrec];simp);rw[hrec]at this;exact this,hdone _ _ (hV _ _ _ hi (jB (by omega) _)) (au _) ((fK (by omega)).trans hk)⟩
open j9 Lay pS
def vw (K LV:List Int)(bs:Int)(ed:Nat->Bool)(j:Nat):List Int:=(List.range LV.length).map (fun i=>if j<=i then Tj K LV bs ed i else nth LV i)
theorem mC (K LV:List Int)(bs:Int)(ed:Nat->Bool)(j:Nat):(vw K LV bs ed j).length=LV.length:=by simp[vw]
theorem uW {K LV:List Int}{bs:Int}{ed:Nat->Bool}{j i:Nat}(h:i<LV.length):nth (vw K LV bs ed j) i=if j<=i then Tj K LV bs ed i else nth LV i:=by simp[nth,vw,h]
theorem E_ {a b:List Int}(hl:a.length=b.length)(h:∀i,i<a.length->nth a i=nth b i):a=b:=by
 refine eE (fun i=>?_);by_cases hi:i<a.length
 ·have h1:=h i hi
  rw[nth,nth,aA hi,aA (by omega)]at h1;rw[aA hi,aA (by omega)];exact congrArg some h1
 ·rw[bN (by omega),bN (by omega)]
theorem Jv (K LV:List Int)(bs:Int)(ed:Nat->Bool):vw K LV bs ed LV.length=LV:=by
 refine E_ (mC _ _ _ _ _) (fun i hi=>?_);rw[mC]at hi;rw[uW hi,ay (by omega)]
theorem xY {K LV:List Int}{bs:Int}{ed:Nat->Bool}{i:Nat}(h:i<LV.length):nth (vw K LV bs ed 0) i=Tj K LV bs ed i:=by rw[uW h,aE (aN _)]
theorem QB {K LV:List Int}{bs:Int}{ed:Nat->Bool}{j:Nat}(he:mT K ed j=true):(vw K LV bs ed (j+1)).set j bs=vw K LV bs ed j:=by
 refine E_ (by rw[bK,mC,mC]) (fun i hi=>?_);rw[bK,mC]at hi;rw[uW hi];by_cases hij:i=j
 ·subst hij
  rw[aE (au _),Tj,aE he,nth,bn (by rw[mC];exact hi)];rfl
 ·rw[nth,bJ (fun e=>hij e.symm),<-nth,uW hi]
  by_cases h1:j<=i
  ·rw[aE h1,aE (by omega)]
  ·rw[ay h1,ay (by omega)]
theorem Uq {K LV:List Int}{bs:Int}{ed:Nat->Bool}{j:Nat}(he:mT K ed j=false):vw K LV bs ed (j+1)=vw K LV bs ed j:=by
 refine E_ (by rw[mC,mC]) (fun i hi=>?_);rw[mC]at hi;rw[uW hi,uW hi];by_cases hij:i=j
 ·subst hij
  rw[aE (au _),ay (by omega),Tj,ay (by rw[he];exact aG)]
 ·by_cases h1:j<=i
  ·rw[aE h1,aE (by omega)]
  ·rw[ay h1,ay (by omega)]
structure VE (w:World)(N gT n cT:Nat)(R:List Int)(p:Nat->Nat)(gL cL:Nat)(bs:Int)(ge m ce:Nat)(Ed K LV:List Int)(ed:Nat->Bool)(j:Nat)(A:World):Prop where
 v:VT gT n cT R p (w.heap.size+4) A
 b0:A.cell? ⟨w.heap.size,0,none⟩=some (.slice (some ⟨gL,0,none⟩) n cL)
 b1:A.cell? ⟨w.heap.size+1,0,none⟩=some (.int .i64 bs)
 b2:A.cell? ⟨w.heap.size+2,0,none⟩=some (.slice (some ⟨ge,0,none⟩) m ce)
 b3:A.cell? ⟨w.heap.size+3,0,none⟩=some (.bool (mT K ed j))
 f3:A.frozen? ⟨w.heap.size+3,0,none⟩=false
 e:rowAt A ge m Ed
 l:rowAt A gL n (vw K LV bs ed j)
 lf:soft A gL n
 f:Fr [gL] w A
 n:N<=A.heap.size
theorem VE.below {w:World}{N gT n cT:Nat}{R:List Int}{p:Nat->Nat}{gL cL:Nat}{bs:Int}{ge m ce:Nat}{Ed K LV:List Int}{ed:Nat->Bool}{j:Nat}{A B:World}(h:VE w N gT n cT R p gL cL bs ge m ce Ed K LV ed j A)(hN:N=w.heap.size+5)(hT:gT<w.heap.size)(hL:gL<w.heap.size)(hE:ge<w.heap.size)(hb:Below N A B):VE w N gT n cT R p gL cL bs ge m ce Ed K LV ed j B:=by
 have hf:=nJ hb;have z:∀ {k},k<N->k ∉ (List.range A.heap.size).filter (fun k=>decide (N<=k)):=fun hk=>mB (by omega)
 refine⟨⟨h.v.t.fr hf (z (by omega)),hf.cell h.v.b (z (by omega))⟩,hf.cell h.b0 (z (by omega)),hf.cell h.b1 (z (by omega)),hf.cell h.b2 (z (by omega)),hf.cell h.b3 (z (by omega)),hf.mq h.b3 (z (by omega)) h.f3,h.e.fr hf (z (by omega)),h.l.fr hf (z (by omega)),fun i hi=>hf.mq (h.l i hi) (z (by omega)) (h.lf i hi),?_,by have:=h.n;have:=hb.size;omega⟩;exact⟨hb.os.trans h.f.os,hb.tape.trans h.f.tape,hb.output.trans h.f.output,aK h.f.size hb.size,fun k hk hm=>(hb.block k (by omega)).trans (h.f.block k hk hm)⟩
theorem VE.no {w:World}{N gT n cT:Nat}{R:List Int}{p:Nat->Nat}{gL cL:Nat}{bs:Int}{ge m ce:Nat}{Ed K LV:List Int}{ed:Nat->Bool}{x:Nat}{A B:World}(h:VE w N gT n cT R p gL cL bs ge m ce Ed K LV ed (x+1) A)(hN:N=w.heap.size+5)(hT:gT<w.heap.size)(hL:gL<w.heap.size)(hE:ge<w.heap.size)(he:mT K ed x=false)(hG:Fr [] A B) :
 (∀k,N<=k->k<A.heap.size->(B.setCell ⟨w.heap.size+3,0,none⟩ (.bool false)).heap[k]?=A.heap[k]?)/\VE w N gT n cT R p gL cL bs ge m ce Ed K LV ed x (B.setCell ⟨w.heap.size+3,0,none⟩ (.bool false)):=by
 have hf:Fr [w.heap.size+3] A (B.setCell ⟨w.heap.size+3,0,none⟩ (.bool false)):=(hG.mono (fun _ h _=>absurd h aj):Fr [w.heap.size+3] A B).set (ak.2 rfl) _;have z:∀ {k},k≠w.heap.size+3->k ∉ [w.heap.size+3]:=fun hk hm=>hk (ak.1 hm)
 have c3:=hG.cell h.b3 aj;have f3:=hG.mq h.b3 aj h.f3;refine⟨fun k hk hk2=>hf.block k hk2 (z (by omega)),⟨h.v.t.fr hf (z (by omega)),hf.cell h.v.b (z (by omega))⟩,hf.cell h.b0 (z (by omega)),hf.cell h.b1 (z (by omega)),hf.cell h.b2 (z (by omega)),?_,?_,h.e.fr hf (z (by omega)),?_,fun i hi=>hf.mq (h.l i hi) (z (by omega)) (h.lf i hi),?_,by have:=h.n;have:=hf.size;omega⟩
 ·rw[he];exact gU _ _ _ (by rw[c3];rfl)
 ·simpa using f3
 ·rw[<-Uq he];exact h.l.fr hf (z (by omega))
 ·exact((h.f.mono (fun a ha _=>dO [w.heap.size+3] ha):Fr ([gL]++[w.heap.size+3]) w A).trans (hf.mono (fun a ha _=>eT [gL] ha))).mono (fun a ha hlt=>by rcases a_.1 ha with h1 | h1;exact h1;have:=ak.1 h1;omega)
theorem VE.yes {w:World}{N gT n cT:Nat}{R:List Int}{p:Nat->Nat}{gL cL:Nat}{bs:Int}{ge m ce:Nat}{Ed K LV:List Int}{ed:Nat->Bool}{x:Nat}{A B:World}(h:VE w N gT n cT R p gL cL bs ge m ce Ed K LV ed (x+1) A)(hx:x<n)(SJ:LV.length=n)(hN:N=w.heap.size+5)(hT:gT<w.heap.size)(hL:gL<w.heap.size)(hE:ge<w.heap.size)(hgE:ge≠gL)(hgT:gT≠gL)(he:mT K ed x=true)(hG:Fr [] A B) :
 (∀k,N<=k->k<A.heap.size->((B.setCell ⟨w.heap.size+3,0,none⟩ (.bool true)).setCell ⟨gL,x,none⟩ (.int .i64 bs)).heap[k]?=A.heap[k]?)/\VE w N gT n cT R p gL cL bs ge m ce Ed K LV ed x ((B.setCell ⟨w.heap.size+3,0,none⟩ (.bool true)).setCell ⟨gL,x,none⟩ (.int .i64 bs)):=by
 have hf1:Fr [w.heap.size+3] A (B.setCell ⟨w.heap.size+3,0,none⟩ (.bool true)):=(hG.mono (fun _ h _=>absurd h aj):Fr [w.heap.size+3] A B).set (ak.2 rfl) _;have hf:Fr [w.heap.size+3,gL] A ((B.setCell ⟨w.heap.size+3,0,none⟩ (.bool true)).setCell ⟨gL,x,none⟩ (.int .i64 bs)):=(hf1.mono (fun a ha _=>by simp at ha;simp[ha])).set (by simp) _;have z1:∀ {k},k≠w.heap.size+3->k ∉ [w.heap.size+3]:=fun hk hm=>hk (ak.1 hm)
 have z:∀ {k},k≠w.heap.size+3->k≠gL->k ∉ [w.heap.size+3,gL]:=fun hk hk2 hm=>by simp at hm;omega
 have c3:=hG.cell h.b3 aj;have f3:=hG.mq h.b3 aj h.f3;have g2:Fr [gL] (B.setCell ⟨w.heap.size+3,0,none⟩ (.bool true)) ((B.setCell ⟨w.heap.size+3,0,none⟩ (.bool true)).setCell ⟨gL,x,none⟩ (.int .i64 bs)):=(Fr.refl [gL] _).set (ak.2 rfl) _;have n3:w.heap.size+3 ∉ [gL]:=fun hm=>by have:=ak.1 hm;omega
 have c3':(B.setCell ⟨w.heap.size+3,0,none⟩ (.bool true)).cell? ⟨w.heap.size+3,0,none⟩=some (.bool true):=gU _ _ _ (by rw[c3];rfl);have hl1:rowAt (B.setCell ⟨w.heap.size+3,0,none⟩ (.bool true)) gL n (vw K LV bs ed (x+1)):=h.l.fr hf1 (z1 (by omega));refine⟨fun k hk hk2=>hf.block k hk2 (z (by omega) (by omega)),⟨h.v.t.fr hf (z (by omega) hgT),hf.cell h.v.b (z (by omega) (by omega))⟩,hf.cell h.b0 (z (by omega) (by omega)),hf.cell h.b1 (z (by omega) (by omega)),hf.cell h.b2 (z (by omega) (by omega)),?_,?_,h.e.fr hf (z (by omega) hgE),?_,?_,?_,by have:=h.n;have:=hf.size;omega⟩
 ·rw[he];exact g2.cell c3' n3
 ·exact g2.mq c3' n3 (by simpa using f3)
 ·rw[<-QB he];exact hl1.set hx (by rw[mC];exact SJ) bs
 ·intro i hi
  have hfz:=hf1.mq (h.l i hi) (z1 (by omega)) (h.lf i hi);simpa using hfz
 ·exact((h.f.mono (fun a ha _=>dO [w.heap.size+3,gL] ha):Fr ([gL]++[w.heap.size+3,gL]) w A).trans (hf.mono (fun a ha _=>eT [gL] ha))).mono (fun a ha hlt=>by simp at ha ⊢;omega)
attribute [local go_sem] gy
theorem t_ (gT n cT:Nat)(R:List Int)(p:Nat->Nat)(gL cL ge m ce:Nat)(bs z:Int)(Ed K LV:List Int)(ed:Nat->Bool)(w:World)(hn0:0<n)(hn:n<=1000)(hK:K.length=n)(SJ:LV.length=n)(hm0:0<m)(hm:m=Ed.length)(hm1:m<=1000)(hr:jN Ed z)
 (hT:MG w gT n R p) (hL:rowAt w gL n LV) (hLf:soft w gL n) (hE:rowAt w ge m Ed) (hgE:ge≠gL) (hgT:gT≠gL)
 (abz:∀x,x<n->∀X:World,Fr [gL] w X->Calls prog 22 #[.int .i32 (nth R x)] X fun e w'=>e=.returned (.int .i64 (nth K x))/\Fr [] X w')
 (hed:∀x,x<n->Ed.contains ((p (x+1):Nat):Int)=ed (x+1)) (abA:mT K ed n=false) :
 Calls prog 112 #[.slice (some ⟨gT,0,none⟩) n cT,.slice (some ⟨gL,0,none⟩) n cL,.int .i64 bs,.slice (some ⟨ge,0,none⟩) m ce] w fun e w'=>e=.returned (.tuple #[])/\rowAt w' gL n (vw K LV bs ed 0)/\Fr [gL] w w':=by
 have hTw:gT<w.heap.size:=fC _ _ (hT 0 hn0).1;have hLw:gL<w.heap.size:=fC _ _ (hL 0 hn0);have hEw:ge<w.heap.size:=fC _ _ (hE 0 hm0);have HST:=hid (fun w=>MH gT n cT w);have afc:=hid (fun(y:Int) (X:World) (h:rowAt X ge m Ed)=>by have h5:=Gz Ed z hr y ge ce X (by omega) (by rw[<-hm];exact h);rw[<-hm]at h5;exact h5);have HC:=hid abz;have Ur:=hid hed;have vJ:=hid hK;have HT:=hid hT;have HL:=hid (show rowAt w gL n (vw K LV bs ed n) by rw[<-SJ,Jv,SJ];exact hL);have Zz:=hid hLf;have HE:=hid hE;have HE0:=hid abA;have Fv:=hid SJ;clear hT hL hLf hE abz hed hr abA hm hK SJ;refine(fF (n:=3)).1 ?_;refine gI func112 rfl trivial ?_ rfl;simp only[ntmps112,cK,bg,List.length_nil,Nat.reduceAdd,Nat.reduceSub,bY,bZ,cN,b_,bT,bV];gi_wp2_with (refine⟨trivial,?_⟩;gi_at_call 145;refine(fF.2 (HST.out _)).mono ?_;rintro e w' ⟨rfl,rfl⟩);obtain⟨W0,hW0⟩:∃W0,((((w.alloc (.cells #[.slice (some ⟨gL,0,none⟩) n cL] 32)).alloc (.cells #[.int .i64 bs] 3)).alloc (.cells #[.slice (some ⟨ge,0,none⟩) m ce] 32)).alloc (.cells #[.bool false] 4)).alloc (.cells #[.slice (some ⟨gT,0,none⟩) n cT] 40)=W0:=⟨_,rfl⟩;have hsz:W0.heap.size=w.heap.size+5:=by rw[<-hW0];simp
 have Aa:VE w W0.heap.size gT n cT R p gL cL bs ge m ce Ed K LV ed n W0:=by
  have hf:Fr [] w W0:=by rw[<-hW0];exact(((((Fr.refl [] w).alloc _).alloc _).alloc _).alloc _).alloc _
  have k0:W0.heap[w.heap.size]?=some (.cells #[.slice (some ⟨gL,0,none⟩) n cL] 32 (0,0)):=by
   rw[<-hW0];exact iJ (iL w _) (((((Fr.refl [] _).alloc _).alloc _).alloc _).alloc _) aj
  have k1:W0.heap[w.heap.size+1]?=some (.cells #[.int .i64 bs] 3 (0,0)):=by
   have h:=iJ (iL (w.alloc (.cells #[.slice (some ⟨gL,0,none⟩) n cL] 32)) (.cells #[.int .i64 bs] 3)) ((((Fr.refl [] _).alloc (.cells #[.slice (some ⟨ge,0,none⟩) m ce] 32)).alloc (.cells #[.bool false] 4)).alloc (.cells #[.slice (some ⟨gT,0,none⟩) n cT] 40)) aj;rw[hW0]at h;simpa using h
  have k2:W0.heap[w.heap.size+2]?=some (.cells #[.slice (some ⟨ge,0,none⟩) m ce] 32 (0,0)):=by
   have h:=iJ (iL ((w.alloc (.cells #[.slice (some ⟨gL,0,none⟩) n cL] 32)).alloc (.cells #[.int .i64 bs] 3)) (.cells #[.slice (some ⟨ge,0,none⟩) m ce] 32)) (((Fr.refl [] _).alloc (.cells #[.bool false] 4)).alloc (.cells #[.slice (some ⟨gT,0,none⟩) n cT] 40)) aj;rw[hW0]at h;simpa using h
  have k3:W0.heap[w.heap.size+3]?=some (.cells #[.bool false] 4 (0,0)):=by
   have h:=iJ (iL (((w.alloc (.cells #[.slice (some ⟨gL,0,none⟩) n cL] 32)).alloc (.cells #[.int .i64 bs] 3)).alloc (.cells #[.slice (some ⟨ge,0,none⟩) m ce] 32)) (.cells #[.bool false] 4)) ((Fr.refl [] _).alloc (.cells #[.slice (some ⟨gT,0,none⟩) n cT] 40)) aj;rw[hW0]at h;simpa using h
  have k4:W0.heap[w.heap.size+4]?=some (.cells #[.slice (some ⟨gT,0,none⟩) n cT] 40 (0,0)):=by
   have h:=iL ((((w.alloc (.cells #[.slice (some ⟨gL,0,none⟩) n cL] 32)).alloc (.cells #[.int .i64 bs] 3)).alloc (.cells #[.slice (some ⟨ge,0,none⟩) m ce] 32)).alloc (.cells #[.bool false] 4)) (.cells #[.slice (some ⟨gT,0,none⟩) n cT] 40);rw[hW0]at h;simpa using h
  exact⟨⟨HT.out.fr hf aj,iG k4 (i:=0) rfl⟩,iG k0 (i:=0) rfl,iG k1 (i:=0) rfl,iG k2 (i:=0) rfl,by rw[HE0.out];exact iG k3 (i:=0) rfl,iH k3 0,HE.out.fr hf aj,HL.out.fr hf aj,fun i hi=>hf.mq (HL.out i hi) aj (Zz.out i hi),hf.mono (fun _ h _=>absurd h aj),au _⟩
 rw[hW0];refine vQ rfl (by omega) (gf:=197) (lb:=#[.pointer (some ⟨w.heap.size+4,0,none⟩)]) rfl trivial (g_ func197 (by kernel_rfl) rfl)
  (encs:=fun x:Nat=>#[.int .i64 x,.agg #[.int .i32 (nth R x),.int .i64 (p x:Nat),.int .i64 (p (x+1):Nat)]]) (fun _=>rfl)
  (VE w W0.heap.size gT n cT R p gL cL bs ge m ce Ed K LV ed) (fun _ _ h=>h.n) (fun _ _ _ h hb=>h.below hsz hTw hLw hEw hb)
  (fun j x=>j=x+1/\x<n) (fun _ x=>x) n 0
  (fun l V' W h1 h2 h3 h4=>Up gT n cT R p _ (by omega) _ l V' (fun C A h=>(h1 C A h).v) h3 W h4)
  (fun x=>.cells #[.int .i32 (nth R x),.int .i64 (p x:Nat),.int .i64 (p (x+1):Nat)] 48)
  (fun x b=>{ tmps:=#[.slice (some ⟨gT,0,none⟩) n cT,.slice (some ⟨gL,0,none⟩) n cL,.int .i64 bs,.slice (some ⟨ge,0,none⟩) m ce,undef,.pointer (some ⟨w.heap.size,0,none⟩),.pointer (some ⟨w.heap.size+1,0,none⟩),.pointer (some ⟨w.heap.size+2,0,none⟩),.pointer (some ⟨w.heap.size+3,0,none⟩),.int .i64 x,.pointer (some ⟨b,0,none⟩),undef,undef,undef,.slice (some ⟨gT,0,none⟩) n cT,.func (.func 197) #[] #[.pointer (some ⟨w.heap.size+4,0,none⟩)],.int .i64 x,.agg #[.int .i32 (nth R x),.int .i64 (p x:Nat),.int .i64 (p (x+1):Nat)],undef,undef,undef,undef,undef,undef,undef,undef,undef,undef,undef,undef,undef,undef,undef,undef,undef,undef,undef,undef,undef,undef,undef,undef,undef,undef,undef,undef,undef,undef,undef],defers:=[] })
  Aa ?assign ?body ?done
 case assign =>
  intro l x W K hK;gi_wp2;exact hK
 case body =>
  rintro l j x A b hV ⟨rfl,hx⟩ GP hb;have r0:=iG GP (i:=0) rfl;have AF:=hid GP;have HV:=hid hV;have H1:=hid (HC.out x hx A hV.f);have HS2:=hid (IJ K ed (i:=x) (by rw[vJ.out];exact hx));have HDD:=hid (Ur.out x hx);have hxI:(x:Int)<(n:Int):=by omega
  have ZK:=hid (fun X:World=>Jq (nth K x) X);generalize nth K x=c at *;clear Aa hW0 HST GP;have R2:=hid (iG AF.out (i:=2) rfl);have B0:=hid HV.out.b0;have B1:=hid HV.out.b1;have B2:=hid HV.out.b2;have B3:=hid HV.out.b3;have F3:=hid HV.out.f3;have L0:=hid (HV.out.l x hx);have L1:=hid (HV.out.lf x hx);clear hV;have H2:=hid (fun(X:World) (h:rowAt X ge m Ed)=>by have h5:=afc.out ((p (x+1):Nat):Int) X h;rw[HDD.out]at h5;exact h5);generalize cidx Ed ((p (x+1):Nat):Int)=ci at *;have Us:=hid (fun(B:World) (he:mT K ed x=true) (hG:Fr [] A B)=>HV.out.yes hx Fv.out hsz hTw hLw hEw hgE hgT he hG);have HNO:=hid (fun(B:World) (he:mT K ed x=false) (hG:Fr [] A B)=>HV.out.no hsz hTw hLw hEw he hG);by_cases h11:c=11
  ·subst h11
   have SG:=hid (show mT K ed x=true by rw[HS2.out];simp[stops]);generalize ed (x+1)=dd at *;generalize mT K ed (x+1)=e1 at *;gi_wp2_with (first | (refine⟨trivial,?_⟩;gi_at_call 22;refine(fJ l (fF.2 H1.out)).mono ?_;rintro e w1 ⟨rfl,hf1⟩;have jc:=hid hf1;have r2:=hf1.cell R2.out aj;have d2:=hf1.cell B2.out aj;have d3:=hf1.cell B3.out aj;have d4:=hf1.mq B3.out aj F3.out;have d0:=hf1.cell B0.out aj;have d1:=hf1.cell B1.out aj;have l0:=hf1.cell L0.out aj;have l1:=hf1.mq L0.out aj L1.out;have kX:=hid (HV.out.e.fr hf1 aj);clear hf1) | (refine⟨trivial,?_⟩;gi_at_call 78;refine(fJ l (fF.2 (H2.out _ kX.out))).mono ?_;rintro e w2 ⟨rfl,q,rfl⟩) | (refine⟨trivial,?_⟩;gi_at_call 146;refine(fJ l (fF.2 (ZK.out _))).mono ?_;rintro e w3 ⟨rfl,rfl⟩) | (refine⟨trivial,?_⟩));exact Us.out _ SG.out (jc.out.trans (jf _ _))
  ·by_cases h10:c=10
   ·subst h10
    have SG:=hid (show mT K ed x=true by rw[HS2.out];simp[stops]);generalize ed (x+1)=dd at *;generalize mT K ed (x+1)=e1 at *;gi_wp2_with (first | (refine⟨trivial,?_⟩;gi_at_call 22;refine(fJ l (fF.2 H1.out)).mono ?_;rintro e w1 ⟨rfl,hf1⟩;have jc:=hid hf1;have r2:=hf1.cell R2.out aj;have d2:=hf1.cell B2.out aj;have d3:=hf1.cell B3.out aj;have d4:=hf1.mq B3.out aj F3.out;have d0:=hf1.cell B0.out aj;have d1:=hf1.cell B1.out aj;have l0:=hf1.cell L0.out aj;have l1:=hf1.mq L0.out aj L1.out;have kX:=hid (HV.out.e.fr hf1 aj);clear hf1) | (refine⟨trivial,?_⟩;gi_at_call 78;refine(fJ l (fF.2 (H2.out _ kX.out))).mono ?_;rintro e w2 ⟨rfl,q,rfl⟩) | (refine⟨trivial,?_⟩;gi_at_call 146;refine(fJ l (fF.2 (ZK.out _))).mono ?_;rintro e w3 ⟨rfl,rfl⟩) | (refine⟨trivial,?_⟩));exact Us.out _ SG.out (jc.out.trans (jf _ _))
   ·have aji:(c == 11)=false:=by simp[h11]
    have ajj:(c == 10)=false:=by simp[h10]
    have SG:=hid (show mT K ed x=(trail c && (mT K ed (x+1) || ed (x+1))) by rw[HS2.out];simp[stops,h11,h10]);generalize ed (x+1)=dd at *;generalize mT K ed (x+1)=e1 at *;generalize trail c=tr at *;cases tr
    ·gi_wp2_with (first | (refine⟨trivial,?_⟩;gi_at_call 22;refine(fJ l (fF.2 H1.out)).mono ?_;rintro e w1 ⟨rfl,hf1⟩;have jc:=hid hf1;have r2:=hf1.cell R2.out aj;have d2:=hf1.cell B2.out aj;have d3:=hf1.cell B3.out aj;have d4:=hf1.mq B3.out aj F3.out;have d0:=hf1.cell B0.out aj;have d1:=hf1.cell B1.out aj;have l0:=hf1.cell L0.out aj;have l1:=hf1.mq L0.out aj L1.out;have kX:=hid (HV.out.e.fr hf1 aj);clear hf1) | (refine⟨trivial,?_⟩;gi_at_call 78;refine(fJ l (fF.2 (H2.out _ kX.out))).mono ?_;rintro e w2 ⟨rfl,q,rfl⟩) | (refine⟨trivial,?_⟩;gi_at_call 146;refine(fJ l (fF.2 (ZK.out _))).mono ?_;rintro e w3 ⟨rfl,rfl⟩) | (refine⟨trivial,?_⟩))
     exact HNO.out _ (by rw[SG.out];rfl) (jc.out.trans (jf _ _))
    ·cases e1
     ·cases dd
      ·gi_wp2_with (first | (refine⟨trivial,?_⟩;gi_at_call 22;refine(fJ l (fF.2 H1.out)).mono ?_;rintro e w1 ⟨rfl,hf1⟩;have jc:=hid hf1;have r2:=hf1.cell R2.out aj;have d2:=hf1.cell B2.out aj;have d3:=hf1.cell B3.out aj;have d4:=hf1.mq B3.out aj F3.out;have d0:=hf1.cell B0.out aj;have d1:=hf1.cell B1.out aj;have l0:=hf1.cell L0.out aj;have l1:=hf1.mq L0.out aj L1.out;have kX:=hid (HV.out.e.fr hf1 aj);clear hf1) | (refine⟨trivial,?_⟩;gi_at_call 78;refine(fJ l (fF.2 (H2.out _ kX.out))).mono ?_;rintro e w2 ⟨rfl,q,rfl⟩) | (refine⟨trivial,?_⟩;gi_at_call 146;refine(fJ l (fF.2 (ZK.out _))).mono ?_;rintro e w3 ⟨rfl,rfl⟩) | (refine⟨trivial,?_⟩))
       exact HNO.out _ (by rw[SG.out];rfl) (jc.out.trans (jf _ _))
      ·gi_wp2_with (first | (refine⟨trivial,?_⟩;gi_at_call 22;refine(fJ l (fF.2 H1.out)).mono ?_;rintro e w1 ⟨rfl,hf1⟩;have jc:=hid hf1;have r2:=hf1.cell R2.out aj;have d2:=hf1.cell B2.out aj;have d3:=hf1.cell B3.out aj;have d4:=hf1.mq B3.out aj F3.out;have d0:=hf1.cell B0.out aj;have d1:=hf1.cell B1.out aj;have l0:=hf1.cell L0.out aj;have l1:=hf1.mq L0.out aj L1.out;have kX:=hid (HV.out.e.fr hf1 aj);clear hf1) | (refine⟨trivial,?_⟩;gi_at_call 78;refine(fJ l (fF.2 (H2.out _ kX.out))).mono ?_;rintro e w2 ⟨rfl,q,rfl⟩) | (refine⟨trivial,?_⟩;gi_at_call 146;refine(fJ l (fF.2 (ZK.out _))).mono ?_;rintro e w3 ⟨rfl,rfl⟩) | (refine⟨trivial,?_⟩))
       exact Us.out _ (by rw[SG.out];rfl) (jc.out.trans (jf _ _))
     ·gi_wp2_with (first | (refine⟨trivial,?_⟩;gi_at_call 22;refine(fJ l (fF.2 H1.out)).mono ?_;rintro e w1 ⟨rfl,hf1⟩;have jc:=hid hf1;have r2:=hf1.cell R2.out aj;have d2:=hf1.cell B2.out aj;have d3:=hf1.cell B3.out aj;have d4:=hf1.mq B3.out aj F3.out;have d0:=hf1.cell B0.out aj;have d1:=hf1.cell B1.out aj;have l0:=hf1.cell L0.out aj;have l1:=hf1.mq L0.out aj L1.out;have kX:=hid (HV.out.e.fr hf1 aj);clear hf1) | (refine⟨trivial,?_⟩;gi_at_call 78;refine(fJ l (fF.2 (H2.out _ kX.out))).mono ?_;rintro e w2 ⟨rfl,q,rfl⟩) | (refine⟨trivial,?_⟩;gi_at_call 146;refine(fJ l (fF.2 (ZK.out _))).mono ?_;rintro e w3 ⟨rfl,rfl⟩) | (refine⟨trivial,?_⟩))
      exact Us.out _ (by rw[SG.out];rfl) (jc.out.trans (jf _ _))
 case done =>
  rintro D A hV hD hKd;have HV:=hid hV;clear hV Aa hW0;gi_wp2;refine⟨by simp,.inl ⟨_,_,rfl,gG hKd,?_⟩⟩;refine⟨_,iA rfl _ _ _,rfl,?_,?_⟩
  ·exact(HV.out.below hsz hTw hLw hEw (jB hD _)).l
  ·exact(HV.out.below hsz hTw hLw hEw (jB hD _)).f
end Go.Proofs.YtnakejhohdbfdacGreatDoor
namespace Go.Proofs
open Go.Shelf Go.Proofs.Tryz
namespace YtnakejhohdbfdacGreatDoor
open Go.RowKit Go.Proofs.Tryz
theorem abE (w:World):(Go.sizeOf 3).run prog w=.ok 1 w:=sizeOf3 w
theorem Jw {w:World}{B e size n g cap:Nat}{xs:List Value}(h:w.ownsRow B e size (.slice (some ⟨g,0,none⟩) n cap) n xs):∀j u,xs[j]?=some u->w.cell? ⟨g,0+j,none⟩=some u:=fun j u hj=>by
 have hl:j<xs.length:=(aY.1 hj).1;rw[dL,h.cellAt j (by have:=h.1;omega)];exact hj
theorem Ut (w:World)(B n:Nat)(v:Value)(xs:List Value)(h:w.ownsRow B 3 1 v n xs)(hn:n<=100000)(h1:∀u∈xs,u.oneCell'=true) :
 Calls prog 54 #[v] w fun e w'=>∃v',e=.returned v'/\w'.ownsRow w.heap.size 3 1 v' n xs/\Fr [] w w':=by
 obtain⟨i3,hi3,Cp,Cq,hz32⟩:=fY info3
 rcases h.2 with⟨rfl,rfl⟩ | ⟨g,cap,cur,rfl,_⟩
 ·refine(Tryz.tR 0 0 w).mono ?_
  rintro e w' ⟨rfl,rfl⟩;exact⟨_,rfl,⟨h.1,.inl ⟨rfl,rfl⟩⟩,Fr.refl _ _⟩
 ·refine(Tryz.yZ i3 _ 1 8 hi3 Cp Cq hz32 rfl (by decide) abE g 0 n cap xs w h.1 (by unfold maxLen;omega) (by omega) (Jw h) h1).mono ?_
  rintro e w' ⟨v',rfl,h2,_,h4⟩;exact⟨v',rfl,h2,Fr.of_below h4⟩
end YtnakejhohdbfdacGreatDoor
end Go.Proofs

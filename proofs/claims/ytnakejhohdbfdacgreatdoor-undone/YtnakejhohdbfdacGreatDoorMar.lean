import Derived.Test.YtnakejhohdbfdacGreatDoorMaq
import Derived.Deep.RegionLaw
set_option maxHeartbeats 4000000
set_option maxRecDepth 10000
set_option linter.unusedSimpArgs false
namespace Go.Proofs.YtnakejhohdbfdacGreatDoor
open Go.RowKit j9 Go.Proofs.Tryz
theorem TP:(Tryz.prog.info? 288).map (fun i=>(i.zero,i.size,i.bytes))=some (some (.pointer none),1,8):=by kernel_rfl
theorem oD {P:Program}{ops:Array Oper}{o:Oper}{a:Act}{w:World}{K:Act->World->Prop}{Q:Exit->Act->World->Prop}{X:Prop}
 (hg:o.guard=none) (s x:Operand) (t:TypeId) (hop:o.op=Op.call { callee:=Callee.builtin Builtin.append,args:=#[s,x],argTypes:=#[t,t] })
 (base:Nat) (e:TypeId) (i:TypeInfo) (z:Value) (size bytes:Nat) (h1:P.underlying t=some (.slice e)) (h2:P.info? e=some i) (h3:i.zero=some z) (h4:i.size=size) (h5:i.bytes=bytes) (h6:z.cells.size=size) (h7:0<size)
 (v:Value) (n:Nat) (xs:List Value) (hs:a.eval s=v) (hown:w.ownsRow base e size v n xs)
 (ad:Addr) (m c:Nat) (news:List Value) (hx:a.eval x=.slice (some ad) m c) (hn:news.length=m * size) (hc:∀j u,news[j]?=some u->w.cell? (ad.add j)=some u) (h1c:∀u∈news,u.oneCell'=true)
 (b1:n+m<=maxLen) (b2:(n+m) * bytes<=140737488355328) (b3:base<=w.heap.size)
 (hK:∀v' w',w'.ownsRow base e size v' (n+m) (xs++news)->w.grownBy w' v.ownBlock->(v'.ownBlock=v.ownBlock\/v'.ownBlock=some w.heap.size)->K (a.put o.dst v') w') :
 if Region.wanted o (yielded ops a.tmps)=true then Oper.wp P o a w K Q else X:=by
 have hw:Region.wanted o (yielded ops a.tmps)=true:=by simp[Region.wanted,hg]
 rw[aE hw];obtain⟨v',w',hr,k2,k3,_,k5⟩:=run_append_own_at (P:=P) w base t o.type e i z size bytes h1 h2 h3 h4 h5 h6 h7 v n xs hown ad m c news hn hc h1c b1 b2 b3;unfold Oper.wp execOp;simp only[hop,resolve,invoke,builtin,Sem.run_bind,Sem.run_pure,Result.andThen_ok,List.map_toArray,List.map_cons,List.map_nil,hs,hx,hr];exact hK _ _ k2 k3 k5
def ptrs (U:Nat)(I:List Nat):List Value:=I.map (fun i=>.pointer (some ⟨U,i * 4,none⟩))
theorem Mh (U:Nat)(I:List Nat)(i:Nat):ptrs U I++[.pointer (some ⟨U,i * 4,none⟩)]=ptrs U (I++[i]):=by simp[ptrs]
theorem TQ (U:Nat)(I:List Nat)(k:Nat)(hk:k<I.length):(ptrs U I)[k]?=some (.pointer (some ⟨U,iP I k * 4,none⟩)):=by
 simp[ptrs,iP,aA hk]
structure SB (w:World)(B S:Nat)(v:Value)(I:List Nat)(lv kE qW:Int)(U:Nat):Prop where
 o:w.heap[S]?=some (.cells #[v,.int .i64 lv,.int .i64 kE,.int .i64 qW] 299 (0,0))
 r:w.ownsRow B 288 1 v I.length (ptrs U I)
 le:B<=S
theorem SB.cell {w:World}{B S U:Nat}{v:Value}{I:List Nat}{lv kE qW:Int}(h:SB w B S v I lv kE qW U){i:Nat}{x:Value}(hx:(#[v,.int .i64 lv,.int .i64 kE,.int .i64 qW]:Array Value)[i]?=some x):w.cell? ⟨S,i,none⟩=some x:=by
 rw[fI w S i _ 299 (0,0) h.o];exact hx
theorem SB.mq {w:World}{B S U:Nat}{v:Value}{I:List Nat}{lv kE qW:Int}(h:SB w B S v I lv kE qW U)(i:Nat):w.frozen? ⟨S,i,none⟩=false:=fT w S i _ 299 h.o
theorem SB.lt {w:World}{B S U:Nat}{v:Value}{I:List Nat}{lv kE qW:Int}(h:SB w B S v I lv kE qW U):S<w.heap.size:=(aC.1 h.o).1
theorem kG {w:World}{S B e t size n g:Nat}{cs:Array Value}{v:Value}{xs:List Value}(h1:w.heap[S]?=some (.cells cs t (0,0)))(ho:w.ownsRow B e size v n xs)(ht:t≠e)(hv:v.ownBlock=some g):S≠g:=fun ee=>by
 rcases ho.2 with⟨h0,_⟩ | ⟨g',c',cur,h0,_,hg,_⟩
 ·subst h0;cases hv
 ·subst h0
  cases hv;rw[ee,hg]at h1;cases h1;exact ht rfl
theorem SB.fr {T:List Nat}{w w':World}{B S U:Nat}{v:Value}{I:List Nat}{lv kE qW:Int}(h:SB w B S v I lv kE qW U)(hf:Fr T w w')(hS:S ∉ T)(hv:∀g,v.ownBlock=some g->g ∉ T):SB w' B S v I lv kE qW U :=
 ⟨(hf.block S h.lt hS).trans h.o,kC h.r hf hv,h.le⟩
theorem SB.oN {w w':World}{B S U:Nat}{v:Value}{I:List Nat}{lv kE qW:Int}(h:SB w B S v I lv kE qW U)(hf:Fr [] w w'):SB w' B S v I lv kE qW U:=h.fr hf aj (fun _ _=>aj)
theorem SB.push {w w1 w2:World}{B S U g' cap' n i:Nat}{v:Value}{I:List Nat}{lv kE qW:Int}(h:SB w B S v I lv kE qW U)(hn:n=I.length)(hf:Fr [] w w1)(ho:w2.ownsRow B 288 1 (.slice (some ⟨g',0,none⟩) (n+1) cap') (n+1) (ptrs U I++[.pointer (some ⟨U,i * 4,none⟩)]))(hg:w1.grownBy w2 v.ownBlock) :
 SB (w2.setCell ⟨S,0,none⟩ (.slice (some ⟨g',0,none⟩) (n+1) cap')) B S (.slice (some ⟨g',0,none⟩) (n+1) cap') (I++[i]) lv kE qW U/\w2.heap[S]?=some (.cells #[v,.int .i64 lv,.int .i64 kE,.int .i64 qW] 299 (0,0)):=by
 have h1:=h.oN hf;have hS:w2.heap[S]?=some (.cells #[v,.int .i64 lv,.int .i64 kE,.int .i64 qW] 299 (0,0)):=(hg.block S h1.lt (fun e=>kG h1.o h1.r (by decide) e.symm rfl)).trans h1.o;have hne:S≠g':=kG hS ho (by decide) rfl;have hl:(I++[i]).length=n+1:=by rw[aD,hn];rfl
 refine⟨⟨?_,?_,h.le⟩,hS⟩
 ·rw[fU w2 S 0 _ 299 _ hS];rfl
 ·rw[hl,<-Mh]
  exact kC ho (jT w2 S 0 _) (fun y hy hm=>by cases hy;exact hne (ak.1 hm).symm)
theorem Fr.Ja {T:List Nat}{w w1 w':World}{row:Option Nat}(h:Fr T w w1)(hg:w1.grownBy w' row)(hr:∀k,row=some k->k∈T\/w.heap.size<=k):Fr T w w' :=
 ⟨hg.os.trans h.os,hg.tape.trans h.tape,hg.output.trans h.output,aK h.size hg.size,fun k hk hs=>(hg.block k (aM hk h.size) (fun e=>by
  rcases hr k e.symm with h1 | h1
  ·exact hs h1
  ·omega)).trans (h.block k hk hs)⟩
theorem Mi (r:List Nat)(k:Nat)(hk:k<r.length):r.take (k+1)=r.take k++[iP r k]:=by
 rw[eF hk];simp[iP,aA hk]
def lies (w:World)(v v':Value):Prop:=v'.ownBlock=v.ownBlock\/∃k,v'.ownBlock=some k/\w.heap.size<=k
theorem lies.step {w w1:World}{v v1 v2:Value}(h:lies w v v1)(k:v2.ownBlock=v1.ownBlock\/v2.ownBlock=some w1.heap.size)(hs:w.heap.size<=w1.heap.size):lies w v v2:=by
 rcases k with k | k
 ·rcases h with h | ⟨j,h,hj⟩
  ·exact .inl (k.trans h)
  ·exact .inr ⟨j,k.trans h,hj⟩
 ·exact .inr ⟨_,k,hs⟩
theorem KD (a:Addr):∀u∈[Value.pointer (some a)],u.oneCell'=true:=by
 intro u hu;simp at hu;subst hu;rfl
theorem PT (q:UH)(P cU:Nat)(plv:Int)(w:World)(B S:Nat)(v:Value)(I r:List Nat)(lv kE qW lv':Int)(g l c:Nat)
 (hq:QS w q P cU plv) (hs:SB w B S v I lv kE qW q.U) (hr:EO w g l r) (hl:l=r.length) (hlt:∀k,k<l->iP r k<q.n) (hsm:I.length+l<=1000000) (_hn:q.n<=1000000) (hB:B<=w.heap.size) (hP:P<B) (hg:g<B) :
 Calls prog 176 #[.pointer (some ⟨P,0,none⟩),.pointer (some ⟨S,0,none⟩),.agg #[.int .i64 lv',.slice (some ⟨g,0,none⟩) l c]] w fun e w'=>e=.returned (.tuple #[])/\(∃v',SB w' B S v' (I++r) lv kE qW q.U/\lies w v v')/\Fr (S :: v.ownBlock.toList) w w':=by
 obtain⟨i0,hi,hz0,hz1,hz2⟩:=fY TP;have HQ:=hid hq;have HS:=hid hs;have HR:=hid hr;have HL:=hid hl;have E0:=hid hlt;have hSw:=hs.lt;have hBS:=hs.le;have hgw:g<w.heap.size:=by omega
 have hPw:P<w.heap.size:=by omega
 have hQB:∀(T:List Nat),(∀k∈T,B<=k)->P ∉ T/\g ∉ T:=fun T hT=>⟨fun hm=>by have:=hT _ hm;omega,fun hm=>by have:=hT _ hm;omega⟩
 have XB:∀k∈S :: v.ownBlock.toList,B<=k:=by
  intro k hk
  rcases bA.1 hk with rfl | hk
  ·exact hBS
  ·exact(hs.r.lt k (by simpa using hk)).1
 have HT:=hid (hQB _ XB);obtain⟨T,hT⟩:∃T,T=S :: v.ownBlock.toList:=⟨_,rfl⟩;rw[<-hT]at HT;rw[<-hT];have HTT:=hid hT;clear hq hs hr hl hlt hQB XB hT;go_enter func176,ntmps176;go_wp2;go_loopw [11] (fun a wr=>∃(k:Nat) (vk:Value),a=.int .i64 k/\k<=l/\Hid (SB wr B S vk (I++r.take k) lv kE qW q.U)/\Hid (lies w v vk)/\Hid (Fr T w wr)) (fun a _=>l - (intOf a).toNat)
 case atStart=>exact⟨0,v,rfl,aN _,hid (by rw[eZ,dh];exact HS.out.oN ((Fr.refl [] w).alloc _)),hid (.inl rfl),hid ((Fr.refl T w).alloc _)⟩
 case round =>
  obtain⟨k,vk,rfl,hkl,HK,HLI,HF⟩:=hrel;by_cases hlt:k<l
  ·have p0:=HF.out.cell (HR.out k hlt) HT.out.2
   have p1:=(HQ.out.fr HF.out HT.out.1).c0;have hix:=E0.out k hlt;have HTS:=hid (Mi r k (by have:=HL.out;omega));generalize iP r k=x at *;have aix:(x:Int)<(q.n:Int):=by omega
   have wX:(k:Int)<(l:Int):=by omega
   have hlen:(I++r.take k).length=I.length+k:=by rw[aD,bH,<-HL.out];omega
   generalize hI2:I++r.take k=I2 at *;have HI2:=hid hI2;obtain⟨n,hn'⟩:∃n,n=I2.length:=⟨_,rfl⟩;have HN:=hid hn';have hnb:n<=1000000:=by omega
   have aeu:n+1<=1000000:=by omega
   have hr':=HK.out.r;rw[<-hn']at hr';obtain⟨a1,c1,hv1⟩:=iW hr';subst hv1;have HRR:=hid hr';have c0:wr.cell? ⟨S,0,none⟩=some (.slice a1 n c1):=HK.out.cell rfl;have f0:=HK.out.mq 0;have hSr:=HK.out.lt;have hBr:B<=wr.heap.size:=by have:=HF.out.size;omega
   have hUr:True:=trivial;clear hI2 hn' hr' hlen hlt;go_wp2;go_region_law (refine oD rfl (.tmp 19) (.tmp 26) 297 rfl B 288 i0 _ 1 8 underlying297 hi hz0 hz1 hz2 rfl (by decide) (.slice a1 n c1) n (ptrs q.U I2) ?q1 ?q2 ⟨wr.heap.size,0,none⟩ 1 1 [.pointer (some ⟨q.U,x * 4,none⟩)] ?q3 rfl ?q4 (KD _) (by unfold maxLen;omega) (by omega) ?q5 ?_;(case q1=>simp[Act.eval,Act.put]);(case q2=>exact iM HRR.out (((Fr.refl [] wr).drew).alloc _));(case q3=>simp[Act.eval,Act.put]);(case q4=>exact kM _ _ _ _ (by simp));(case q5=>simp;omega);intro v' w' hown hgrow hat;obtain⟨g',c',hv'⟩:=iQ (by omega) hown;subst hv';have KE:=hid hown;have vI:=hid hgrow;have HX4:=hid hat;have Cz:=hid (HK.out.push (i:=x) HN.out (((Fr.refl [] wr).drew).alloc _) hown hgrow);have g1:w'.cell? ⟨S,0,none⟩=some (.slice a1 n c1):=(by rw[fI w' S 0 _ 299 (0,0) Cz.out.2];rfl);have g2:=fT w' S 0 _ 299 Cz.out.2;clear hown hgrow hat)
   all_goals (
    go_wp2
    go_roundw)
   all_goals first
    | (refine⟨k+1,_,by go_num,by omega,hid (by rw[HTS.out,<-dF,HI2.out];exact Cz.out.1.oN (s_ _ _ _ rfl rfl rfl rfl)),hid (HLI.out.step (w1:=wr.drew.alloc _) HX4.out (by have:=HF.out.size;simp;omega)),hid ?_⟩
       refine(Fr.trans (Fr.set (Fr.Ja (HF.out.drew.alloc _) vI.out (fun j hj=>?_)) (by rw[HTT.out];simp) _) (s_ _ _ _ rfl rfl rfl rfl))
       rcases HLI.out with h5 | ⟨j',h5,h6⟩
       ·rw[h5]at hj;exact .inl (by rw[HTT.out];simp[hj])
       ·rw[h5]at hj;cases hj;exact .inr h6)
    | (simp[intOf];omega)
  ·have hke:k=l:=by omega
   have wX:¬(k:Int)<(l:Int):=by omega
   have HK2:=hid (show SB wr B S vk (I++r) lv kE qW q.U by have h:=HK.out;rw[hke,HL.out,c_]at h;exact h);clear hke HK;go_wp2;go_end0;exact⟨rfl,⟨vk,HK2.out,HLI.out⟩,HF.out⟩
open Go.Maps
theorem E6 (K:List Int)(rs:List (List Nat)):∀k p s,(jL K rs k).aw p=some s->∃t,t<k/\leads K (run rs t)=some p/\ow K rs t=s
 | 0,p,s,h=>by cases h
 | k+1,p,s,h=>by
   rw[jL,qg]at h;cases hx:(jL K rs k).aw (iV (run rs k))with
   | some b =>
     rw[hx]at h;dsimp only[yU]at h;by_cases hl:leads K (run rs k)=some p
     ·rw[aE hl]at h;cases h;exact⟨k,bP _,hl,by rw[ow,hx]⟩
     ·rw[ay hl]at h;obtain⟨t,h1,h2⟩:=E6 K rs k p s h;exact⟨t,by omega,h2⟩
   | none =>
     rw[hx]at h;dsimp only[yU]at h;by_cases hl:leads K (run rs k)=some p
     ·rw[aE hl]at h;cases h;exact⟨k,bP _,hl,by rw[ow,hx]⟩
     ·rw[ay hl]at h;obtain⟨t,h1,h2⟩:=E6 K rs k p s h;exact⟨t,by omega,h2⟩
theorem E7 (y:List Nat){r:List Nat}(h:r≠[]):jw (y++r)=jw r:=by
 have hl:=bW.2 h;unfold jw;rw[aD,aI (by omega),show y.length+r.length - 1 - y.length=r.length - 1 by omega]
theorem zn {K L:List Int}{rs:List (List Nat)}(hr:qM K L K.length rs)(ho:kr K rs)
 (hf:∀a b:List Nat,jw a<K.length->follows K a b=true->nth L (iV b)=nth L (jw a)):∀k,k<=rs.length->∀(s:Nat) y,(jL K rs k).all[s]?=some y->y≠[]/\∀x∈y,nth L x=nth L (iV y)
 | 0,_,s,y,h=>by simp[jL]at h
 | k+1,hk,s,y,h=>by
   have ih:=zn hr ho hf k (by omega);have hne:=ho.ne k (by omega);rw[jL,qg]at h;cases hx:(jL K rs k).aw (iV (run rs k))with
   | some a =>
     rw[hx]at h;dsimp only at h;have ha:=FX K rs k _ _ hx;by_cases e:s=a
     ·subst e
      rw[bn ha]at h;cases h;obtain⟨t,ht,hl,how⟩:=E6 K rs k _ _ hx;obtain⟨y,hy,hm⟩:=(xG K rs k s (jw (run rs t))).2 ⟨t,ht,how,kZ (ho.ne t (by omega))⟩;rw[hy];obtain⟨h1,h2⟩:=ih s y hy;refine⟨by simp[h1],fun x hx'=>?_⟩;show nth L x=nth L (iV (y++run rs k));rw[mD h1]
      rcases a_.1 hx' with h3 | h3
      ·exact h2 x h3
      ·rw[hr.LF _ (mS (by omega)) x h3,hf _ _ (ho.mem (by omega) (kZ (ho.ne t (by omega)))).1 ((oQ K _ _).1 hl)]
       exact h2 _ hm
     ·rw[bJ (fun e'=>e e'.symm)]at h
      exact ih s y h
   | none =>
     rw[hx]at h;dsimp only at h;by_cases e:s<(jL K rs k).all.length
     ·rw[aJ e]at h;exact ih s y h
     ·rw[aI (by omega)]at h
      have:s - (jL K rs k).all.length=0:=by
       rcases bO (s - (jL K rs k).all.length)with h0 | h0
       ·exact h0
       ·rw[bN (by simp;omega)]at h;cases h
      rw[this]at h;cases h;exact⟨hne,fun x hx'=>hr.LF _ (mS (by omega)) x hx'⟩
theorem XO {K L:List Int}{base:Int}{rs:List (List Nat)}{ls:List Int}(hr:qM K L K.length rs)(hv:zm L rs ls){k:Nat}(hk:k<rs.length):qx ls rs.length base ((k:Int) - 1)=uJ K L base (iV (run rs k)):=by
 rw[FU hr hk,qx];by_cases h0:k=0
 ·rw[aE (by omega),aE h0]
 ·rw[ay (by omega),ay h0,show((k:Int) - 1).toNat=k - 1 by omega,hv (k - 1) (by omega)]
theorem PU {K L:List Int}{base:Int}{rs:List (List Nat)}{ls:List Int}(hr:qM K L K.length rs)(hv:zm L rs ls){k:Nat}(hk:k<rs.length):qx ls rs.length base ((k:Int)+1)=qX K L base K.length (jw (run rs k)+1):=by
 rw[EI hr hk,qx];by_cases h0:k+1<rs.length
 ·rw[ay (by omega),aE h0,show((k:Int)+1).toNat=k+1 by omega,hv (k+1) h0]
 ·rw[aE (by omega),ay h0]
structure SD where
 S:Nat
 v:Value
 I:List Nat
 lv:Int
 kE:Int
 qW:Int
structure AL (wr:World)(B U:Nat)(v:Value)(gs:List SD):Prop where
 own:wr.ownsRow B 263 1 v gs.length (gs.map (fun d=>.pointer (some ⟨d.S,0,none⟩)))
 sb:∀(s:Nat) d,gs[s]?=some d->SB wr B d.S d.v d.I d.lv d.kE d.qW U
 XP:∀(s s':Nat) d d',gs[s]?=some d->gs[s']?=some d'->d.S=d'.S->s=s'
 ZA:∀(s s':Nat) d d' g,gs[s]?=some d->gs[s']?=some d'->d.v.ownBlock=some g->d'.v.ownBlock=some g->s=s'
theorem AL.oN {wr w':World}{B U:Nat}{v:Value}{gs:List SD}(h:AL wr B U v gs)(hf:Fr [] wr w'):AL w' B U v gs :=
 ⟨iM h.own hf,fun s d hd=>(h.sb s d hd).oN hf,h.XP,h.ZA⟩
theorem AL.start (w:World)(B U:Nat):AL w B U (.slice none 0 0) [] :=
 ⟨fQ _ _ _ _,fun s d h=>by simp at h,fun s s' d d' h=>by simp at h,fun s s' d d' g h=>by simp at h⟩
theorem AL.cell {wr:World}{B U g n c:Nat}{gs:List SD}(h:AL wr B U (.slice (some ⟨g,0,none⟩) n c) gs){a:Nat}{d:SD}(hd:gs[a]?=some d)(hn:n=gs.length):wr.cell? ⟨g,a,none⟩=some (.pointer (some ⟨d.S,0,none⟩)):=by
 have ho:=h.own;rw[<-hn]at ho;have ha:a<gs.length:=(aY.1 hd).1;rw[ho.cellAt a (by omega),cA,hd];rfl
theorem AL.new {wr w2 w3:World}{B U S:Nat}{v v':Value}{gs:List SD}{lv kE:Int}(h:AL wr B U v gs)(hf:Fr [] wr w2)(hS:w2.heap[S]?=some (.cells #[.slice none 0 0,.int .i64 lv,.int .i64 kE,.int .i64 0] 299 (0,0)))(hB:B<=S)(hSw:wr.heap.size<=S)
 (ho:w3.ownsRow B 263 1 v' (gs.length+1) (gs.map (fun d=>.pointer (some ⟨d.S,0,none⟩))++[.pointer (some ⟨S,0,none⟩)])) (hg:w2.grownBy w3 v.ownBlock):AL w3 B U v' (gs++[⟨S,.slice none 0 0,[],lv,kE,0⟩]):=by
 have h2:=h.oN hf;have split:∀(s:Nat) d,(gs++[(⟨S,.slice none 0 0,[],lv,kE,0⟩:SD)])[s]?=some d->(gs[s]?=some d/\s<gs.length)\/(s=gs.length/\d=⟨S,.slice none 0 0,[],lv,kE,0⟩):=fun s d hd=>by
  rcases cH s gs.length with hs | hs
  ·rw[aJ hs]at hd;exact .inl ⟨hd,hs⟩
  ·rw[aI hs]at hd
   have hlt:=(aY.1 hd).1;simp at hlt;have h0:s - gs.length=0:=by omega
   rw[h0]at hd;cases hd;exact .inr ⟨by omega,rfl⟩
 have hst:w3.heap[S]?=some (.cells #[.slice none 0 0,.int .i64 lv,.int .i64 kE,.int .i64 0] 299 (0,0)):=(hg.block S (aC.1 hS).1 (fun e=>kG hS h2.own (by decide) e.symm rfl)).trans hS;refine⟨by rw[aD,dz];exact ho,fun s d hd=>?_,fun s s' d d' hd hd' e=>?_,fun s s' d d' g hd hd' e e'=>?_⟩
 ·rcases split s d hd with⟨h3,_⟩ | ⟨_,rfl⟩
  ·have h4:=h2.sb s d h3
   exact⟨(hg.block d.S h4.lt (fun e=>kG h4.o h2.own (by decide) e.symm rfl)).trans h4.o,jP h4.r hg (fun g hg' e=>j7 h4.r h2.own (by decide) hg' e.symm rfl),h4.le⟩
  ·exact⟨hst,fQ _ _ _ _,hB⟩
 ·rcases split s d hd with⟨h3,h3'⟩ | ⟨h3,rfl⟩
  ·rcases split s' d' hd' with⟨h4,_⟩ | ⟨_,rfl⟩
   ·exact h.XP s s' d d' h3 h4 e
   ·have:=(h.sb s d h3).lt;dsimp only at e;omega
  ·rcases split s' d' hd' with⟨h4,_⟩ | ⟨h4,_⟩
   ·have:=(h.sb s' d' h4).lt;dsimp only at e;omega
   ·omega
 ·rcases split s d hd with⟨h3,h3'⟩ | ⟨h3,rfl⟩
  ·rcases split s' d' hd' with⟨h4,_⟩ | ⟨_,rfl⟩
   ·exact h.ZA s s' d d' g h3 h4 e e'
   ·cases e'
  ·cases e
theorem oO {gs:List SD}{a s:Nat}{d d1 x:SD}(ha:gs[a]?=some d1)(h:(gs.set a d)[s]?=some x):(s=a/\x=d)\/(s≠a/\gs[s]?=some x):=by
 by_cases e:s=a
 ·subst e
  rw[bn (aY.1 ha).1]at h;cases h;exact .inl ⟨rfl,rfl⟩
 ·rw[bJ (fun e'=>e e'.symm)]at h
  exact .inr ⟨e,h⟩
theorem Mj {gs:List SD}{a:Nat}{d d1:SD}(ha:gs[a]?=some d1)(hS:d.S=d1.S):(gs.set a d).map (fun d=>Value.pointer (some ⟨d.S,0,none⟩))=gs.map (fun d=>Value.pointer (some ⟨d.S,0,none⟩)):=by
 rw[List.map_set,hS];refine eE (fun i=>?_);by_cases e:i=a
 ·subst e
  have hlt:=(aY.1 ha).1;rw[bn (by simpa using hlt),cA,ha];rfl
 ·rw[bJ (fun e'=>e e'.symm)]
theorem AL.turn {wr w':World}{B U a:Nat}{v:Value}{gs:List SD}{d d1:SD}(h:AL wr B U v gs)(ha:gs[a]?=some d1)(hS:d.S=d1.S)(hf:Fr (d1.S :: d1.v.ownBlock.toList) wr w')(hb:SB w' B d.S d.v d.I d.lv d.kE d.qW U)(hl:lies wr d1.v d.v):AL w' B U v (gs.set a d):=by
 have h1:=h.sb a d1 ha;have hT:∀k∈d1.S :: d1.v.ownBlock.toList,k=d1.S\/d1.v.ownBlock=some k:=fun k hk=>by
  rcases bA.1 hk with rfl | hk
  ·exact .inl rfl
  ·exact .inr (by simpa using hk)
 refine⟨?_,fun s x hx=>?_,fun s s' x x' hx hx' e=>?_,fun s s' x x' g hx hx' e e'=>?_⟩
 ·rw[bK,Mj ha hS]
  refine kC h.own hf (fun g hg hm=>?_)
  rcases hT g hm with e | e
  ·exact kG h1.o h.own (by decide) hg e.symm
  ·exact j7 h.own h1.r (by decide) hg e rfl
 ·rcases oO ha hx with⟨_,rfl⟩ | ⟨hne,h3⟩
  ·exact hb
  ·have h4:=h.sb s x h3
   refine h4.fr hf (fun hm=>?_) (fun g hg hm=>?_)
   ·rcases hT _ hm with e | e
    ·exact hne (h.XP s a x d1 h3 ha e)
    ·exact kG h4.o h1.r (by decide) e rfl
   ·rcases hT g hm with e | e
    ·exact kG h1.o h4.r (by decide) hg e.symm
    ·exact hne (h.ZA s a x d1 g h3 ha hg e)
 ·rcases oO ha hx with⟨rfl,rfl⟩ | ⟨hne,h3⟩
  ·rcases oO ha hx' with⟨rfl,_⟩ | ⟨hne',h4⟩
   ·rfl
   ·exact h.XP s s' d1 x' ha h4 (by rw[<-hS];exact e)
  ·rcases oO ha hx' with⟨rfl,rfl⟩ | ⟨hne',h4⟩
   ·exact h.XP s s' x d1 h3 ha (by rw[<-hS];exact e)
   ·exact h.XP s s' x x' h3 h4 e
 ·have key:∀(t:Nat) y g,t≠a->gs[t]?=some y->y.v.ownBlock=some g->d.v.ownBlock=some g->False:=fun t y g ht hy hyv hdv=>by
   rcases hl with h5 | ⟨k,h5,h6⟩
   ·rw[h5]at hdv;exact ht (h.ZA t a y d1 g hy ha hyv hdv)
   ·rw[h5]at hdv
    cases hdv;have:=((h.sb t y hy).r.lt g hyv).2;omega
  rcases oO ha hx with⟨rfl,rfl⟩ | ⟨hne,h3⟩
  ·rcases oO ha hx' with⟨rfl,_⟩ | ⟨hne',h4⟩
   ·rfl
   ·exact(key s' x' g hne' h4 e' e).elim
  ·rcases oO ha hx' with⟨rfl,rfl⟩ | ⟨hne',h4⟩
   ·exact(key s x g hne h3 e e').elim
   ·exact h.ZA s s' x x' g h3 h4 e e'
theorem TR:(Tryz.prog.info? 263).map (fun i=>(i.zero,i.size,i.bytes))=some (some (.pointer none),1,8):=by kernel_rfl
theorem Mk {P:Program}{ops:Array Oper}{o:Oper}{a:Act}{w:World}{K:Act->World->Prop}{Q:Exit->Act->World->Prop}{X:Prop}
 (hg:o.guard=none) (f:FuncId) (xs:Array Operand) (ts:Array TypeId) (hop:o.op=Op.call { callee:=Callee.value (Operand.func f),args:=xs,argTypes:=ts })
 (hent:∀args w,(callFunc f args).run P w=.ok (.enter f args) w) (vals:Array Value) (hv:xs.map a.eval=vals) (R:Value->World->Prop)
 (hc:Calls P f vals w fun e w'=>∃v,e=.returned v/\R v w') (hK:∀v w',R v w'->K (a.put o.dst v) w') :
 if Region.wanted o (yielded ops a.tmps)=true then Oper.wp P o a w K Q else X:=by
 have hw:Region.wanted o (yielded ops a.tmps)=true:=by simp[Region.wanted,hg]
 rw[aE hw];have he:(execOp a.eval o).run P w=.ok (.enter f vals) w:=by
  simp[execOp,hop,resolve,Deferred.ofValue,invoke,Act.eval,hv,hent]
 unfold Oper.wp;rw[he,Oper.upon_enter];refine hc.mono ?_;rintro e w' ⟨v,rfl,hr⟩;exact hK v w' hr
theorem tX {P:Program}{ops:Array Oper}{o:Oper}{a:Act}{w:World}{K:Act->World->Prop}{Q:Exit->Act->World->Prop}{X:Prop}
 (hg:o.guard=none) (f:FuncId) (xs:Array Operand) (ts:Array TypeId) (hop:o.op=Op.call { callee:=Callee.value (Operand.func f),args:=xs,argTypes:=ts })
 (hent:∀args w,(callFunc f args).run P w=.ok (.enter f args) w) (vals:Array Value) (hv:xs.map a.eval=vals) (y:Value)
 (hc:Calls P f vals w fun e w'=>e=.returned y/\w'=w) (hK:K (a.put o.dst y) w) :
 if Region.wanted o (yielded ops a.tmps)=true then Oper.wp P o a w K Q else X :=
 Mk hg f xs ts hop hent vals hv (fun v w'=>v=y/\w'=w) (hc.mono (fun _ _ h=>⟨y,h.1,rfl,h.2⟩)) (fun _ _ h=>by rw[h.1,h.2];exact hK)
theorem uT {w:World}{b n B e size m:Nat}{D:DataW Unit}{v:Value}{xs:List Value}(h:w.ownsMap prog 3 (plainElem prog 3) b n D)(ho:w.ownsRow B e size v m xs):some b≠v.ownBlock:=fun ee=>by
 obtain⟨es,clock,hb,_⟩:=h
 rcases ho.2 with⟨h0,_⟩ | ⟨g,c,cur,h0,_,hg,_⟩
 ·subst h0;cases ee
 ·subst h0;cases ee;rw[hb]at hg;cases hg
theorem rQ {w:World}{b n S t:Nat}{D:DataW Unit}{cs:Array Value}(h:w.ownsMap prog 3 (plainElem prog 3) b n D)(hs:w.heap[S]?=some (.cells cs t (0,0))):b≠S:=fun ee=>by
 obtain⟨es,clock,hb,_⟩:=h;rw[ee,hs]at hb;cases hb
theorem GI {T:List Nat}{w w':World}{b n:Nat}{D:DataW Unit}(h:w.ownsMap prog 3 (plainElem prog 3) b n D)(hf:Fr T w w')(hb:b ∉ T):w'.ownsMap prog 3 (plainElem prog 3) b n D:=by
 obtain⟨es,clock,hh,r⟩:=h;exact⟨es,clock,(hf.block b (aC.1 hh).1 hb).trans hh,r⟩
theorem AL.made {wB w1 w3:World}{U n g' c' k PV z S t1:Nat}{v:Value}{gs:List SD}{lv kE:Int}{o:Obj}{D:DataW Unit}{cz:Array Value}(h:AL w1 wB.heap.size U v gs)(hn:n=gs.length)
 (ho:w3.ownsRow wB.heap.size 263 1 (.slice (some ⟨g',0,none⟩) (n+1) c') (n+1) (gs.map (fun d=>.pointer (some ⟨d.S,0,none⟩))++[.pointer (some ⟨S,0,none⟩)]))
 (hg:((w1.drew.alloc (.cells #[.slice none 0 0,.int .i64 lv,.int .i64 kE,.int .i64 0] 299)).alloc o).grownBy w3 v.ownBlock) (hS:S=w1.heap.size) (hf:Fr [] wB w1)
 (hm:w1.ownsMap prog 3 (plainElem prog 3) PV k D) (hz:w1.heap[z]?=some (.cells cz t1 (0,0))) (ht:t1≠263) :
 AL w3 wB.heap.size U (.slice (some ⟨g',0,none⟩) (n+1) c') (gs++[⟨S,.slice none 0 0,[],lv,kE,0⟩])/\Fr [] wB w3/\w3.ownsMap prog 3 (plainElem prog 3) PV k D/\w3.heap[z]?=some (.cells cz t1 (0,0)):=by
 subst hS;subst hn;have hf2:Fr [] w1 ((w1.drew.alloc (.cells #[.slice none 0 0,.int .i64 lv,.int .i64 kE,.int .i64 0] 299)).alloc o):=(((Fr.refl [] w1).drew).alloc _).alloc _;have hst:((w1.drew.alloc (.cells #[.slice none 0 0,.int .i64 lv,.int .i64 kE,.int .i64 0] 299)).alloc o).heap[w1.heap.size]?=some (.cells #[.slice none 0 0,.int .i64 lv,.int .i64 kE,.int .i64 0] 299 (0,0)) :=
  (fS _ _ _ (by simp)).trans (gQ w1.drew _)
 have h2:=h.oN hf2;refine⟨h.new hf2 hst hf.size (au _) ho hg,(hf.trans hf2).grown hg (fun k e=>(h2.own.lt k e).1),(oC hm hf2).kept hg (uT (oC hm hf2) h2.own),?_⟩;have hz2:=(hf2.block z (aC.1 hz).1 aj).trans hz;exact(hg.block z (aC.1 hz2).1 (fun e=>kG hz2 h2.own ht e.symm rfl)).trans hz2
theorem SB.XQ {w:World}{B S U:Nat}{v:Value}{I:List Nat}{lv kE qW:Int}(h:SB w B S v I lv kE qW U)(x:Int):SB (w.setCell ⟨S,3,none⟩ (.int .i64 x)) B S v I lv kE x U :=
 ⟨by rw[fU w S 3 _ 299 _ h.o];rfl,kC h.r (jT w S 3 _) (fun y hy hm=>kG h.o h.r (by decide) hy (ak.1 hm).symm),h.le⟩
theorem Fr.late {T T':List Nat}{w w1 w2:World}(h:Fr T w w1)(k:Fr T' w1 w2)(hT:∀b∈T',w.heap.size<=b):Fr T w w2 :=
 ⟨k.os.trans h.os,k.tape.trans h.tape,k.output.trans h.output,aK h.size k.size,fun b hb hs=>(k.block b (aM hb h.size) (fun hm=>by have:=hT b hm;omega)).trans (h.block b hb hs)⟩
theorem AL.joined {wB wc w':World}{U a k PV z t1 S:Nat}{v v1 v':Value}{gs:List SD}{I1 I':List Nat}{Bb s7 Ml XR:Int}{D:DataW Unit}{cz:Array Value}(h:AL wc wB.heap.size U v gs)(ha:gs[a]?=some ⟨S,v1,I1,Bb,s7,Ml⟩)(hF:Fr [] wB wc)
 (hm:wc.ownsMap prog 3 (plainElem prog 3) PV k D) (hz:wc.heap[z]?=some (.cells cz t1 (0,0))) (ht:t1≠299/\t1≠288) (hb:SB w' wB.heap.size S v' I' Bb s7 XR U) (hl:lies wc v1 v') (hf:Fr (S :: v1.ownBlock.toList) wc w') :
 AL w' wB.heap.size U v (gs.set a ⟨S,v',I',Bb,s7,XR⟩)/\w'.ownsMap prog 3 (plainElem prog 3) PV k D/\w'.heap[z]?=some (.cells cz t1 (0,0))/\Fr [] wB w':=by
 have h1:=h.sb a _ ha;dsimp only at h1;have hT:∀b∈S :: v1.ownBlock.toList,b=S\/v1.ownBlock=some b:=fun b hb'=>by
  rcases bA.1 hb' with rfl | h2
  ·exact .inl rfl
  ·exact .inr (by simpa using h2)
 refine⟨h.turn (d:=⟨S,v',I',Bb,s7,XR⟩) ha rfl hf hb hl,GI hm hf (fun hmm=>?_),(hf.block z (aC.1 hz).1 (fun hmm=>?_)).trans hz,hF.late hf (fun b hmm=>?_)⟩
 ·rcases hT _ hmm with e | e
  ·exact rQ hm h1.o e
  ·exact uT hm h1.r e.symm
 ·rcases hT _ hmm with e | e
  ·rw[e,h1.o]at hz;cases hz;exact ht.1 rfl
  ·exact kG hz h1.r ht.2 e rfl
 ·rcases hT _ hmm with e | e
  ·rw[e];exact h1.le
  ·exact(h1.r.lt b e).1
theorem AL.behind {wB wc w1:World}{U a k PV z t1 S:Nat}{v v1:Value}{gs:List SD}{I1:List Nat}{Bb s7 Ml:Int}{D:DataW Unit}{cz:Array Value}(h:AL wc wB.heap.size U v gs)(ha:gs[a]?=some ⟨S,v1,I1,Bb,s7,Ml⟩)(hF:Fr [] wB wc)(hf:Fr [] wc w1)
 (hm:wc.ownsMap prog 3 (plainElem prog 3) PV k D) (hz:wc.heap[z]?=some (.cells cz t1 (0,0))) (ht:t1≠299/\t1≠288) (x:Int) :
 AL (w1.setCell ⟨S,3,none⟩ (.int .i64 x)) wB.heap.size U v (gs.set a ⟨S,v1,I1,Bb,s7,x⟩)/\(w1.setCell ⟨S,3,none⟩ (.int .i64 x)).ownsMap prog 3 (plainElem prog 3) PV k D/\(w1.setCell ⟨S,3,none⟩ (.int .i64 x)).heap[z]?=some (.cells cz t1 (0,0))/\Fr [] wB (w1.setCell ⟨S,3,none⟩ (.int .i64 x)) :=
 (h.oN hf).joined ha (hF.trans hf) (oC hm hf) ((hf.block z (aC.1 hz).1 aj).trans hz) ht (((h.sb a _ ha).oN hf).XQ x) (.inl rfl) ((Fr.refl _ _).set bX _)
theorem AL.mapped {w w':World}{B U PV k:Nat}{v:Value}{gs:List SD}{D:DataW Unit}(h:AL w B U v gs)(hm:w.ownsMap prog 3 (plainElem prog 3) PV k D)(hg:w.grownBy w' (some PV)):AL w' B U v gs:=by
 have hf:=Fr.m8 hg;refine⟨kC h.own hf (fun g hg' hm'=>uT hm h.own (by rw[hg',ak.1 hm'])),fun s d hd=>?_,h.XP,h.ZA⟩;have h1:=h.sb s d hd;exact h1.fr hf (fun hm'=>rQ hm h1.o (ak.1 hm').symm) (fun g hg' hm'=>uT hm h1.r (by rw[hg',ak.1 hm']))
theorem KF (K:List Int)(rs:List (List Nat))(k:Nat):(jL K rs (k+1)).aw=yU K (run rs k) (ow K rs k) (jL K rs k).aw:=by
 rw[jL,qg,ow];cases (jL K rs k).aw (iV (run rs k)) <;> rfl
theorem TS {K:List Int}{rs:List (List Nat)}{k:Nat}(h:leads K (run rs k)=none):(jL K rs (k+1)).aw=(jL K rs k).aw:=by
 rw[KF]
 funext p
 rw[yU,ay (by rw[h];intro e;cases e)]
theorem TU {K:List Int}{rs:List (List Nat)}{k p:Nat}(h:leads K (run rs k)=some p):(jL K rs (k+1)).aw=fun i=>if i=p then some (ow K rs k)else(jL K rs k).aw i:=by
 rw[KF]
 funext i
 rw[yU,h];by_cases e:i=p
 ·subst e;rw[aE rfl,aE rfl]
 ·rw[ay (fun h'=>e (aZ h').symm),ay e]
theorem PW {K:List Int}{r:List Nat}{p:Nat}(h:leads K r=some p):p<K.length:=by
 rw[leads]at h;split at h
 ·exact EN _ _ _ h
 ·cases h
def AJ (K L:List Int)(base:Int)(gs:List SD)(all:List (List Nat)):Prop:=gs.map (·.I)=all/\∀x∈gs,x.lv=nth L (iV x.I)/\x.kE=(oq K L base x.I).kE/\x.qW=(oq K L base x.I).qW
theorem PX {K L:List Int}{base:Int}{gs:List SD}{all:List (List Nat)}(h:AJ K L base gs all){a:Nat}{d:SD}(hd:gs[a]?=some d):all[a]?=some d.I:=by
 rw[<-h.1,cA,hd];rfl
theorem PY {K L:List Int}{base:Int}{gs:List SD}{all:List (List Nat)}(h:AJ K L base gs all):gs.length=all.length:=by rw[<-h.1,cP]
theorem AJ.old {K L:List Int}{base:Int}{gs:List SD}{rs:List (List Nat)}{ls:List Int}{k a:Nat}{d:SD}(h:AJ K L base gs (jL K rs k).all)(hk:k<rs.length)(hr:qM K L K.length rs)(ho:kr K rs)
 (hlv:∀k,k<=rs.length->∀(s:Nat) y,(jL K rs k).all[s]?=some y->y≠[]/\∀x∈y,nth L x=nth L (iV y)) (hv:zm L rs ls) (hx:(jL K rs k).aw (iV (run rs k))=some a) (hd:gs[a]?=some d) (v':Value) :
 AJ K L base (gs.set a ⟨d.S,v',d.I++run rs k,d.lv,d.kE,way (max (nth ls k) (if mh (nth K (jw (run rs k)))then base else qx ls rs.length base ((k:Int)+1)))⟩) (jL K rs (k+1)).all:=by
 have ha:=PX h hd;have hall:(jL K rs (k+1)).all=(jL K rs k).all.set a (d.I++run rs k):=by
  rw[jL,qg,hx];dsimp only;rw[ha];rfl
 have hlen:a<(jL K rs k).all.length:=(aY.1 ha).1;obtain⟨hne,_⟩:=hlv k (by omega) a d.I ha;obtain⟨_,hl2⟩:=hlv (k+1) (by omega) a (d.I++run rs k) (by rw[hall,bn hlen]);have hrn:=ho.ne k hk;have hd':=h.2 d (eW hd);refine⟨by rw[hall,List.map_set,h.1],fun x hx'=>?_⟩
 rcases List.mem_or_eq_of_mem_set hx' with h1 | rfl
 ·exact h.2 x h1
 ·refine⟨?_,?_,?_⟩
  ·dsimp only;rw[mD hne];exact hd'.1
  ·dsimp only[oq];rw[mD hne];exact hd'.2.1
  ·dsimp only[oq]
   rw[E7 _ hrn,PU hr hv hk,hv k hk,hl2 (iV (run rs k)) (eT _ (lH hrn))]
theorem AJ.new {K L:List Int}{base:Int}{gs:List SD}{rs:List (List Nat)}{ls:List Int}{k:Nat}(h:AJ K L base gs (jL K rs k).all)(hk:k<rs.length)(hr:qM K L K.length rs)(hv:zm L rs ls)(hx:(jL K rs k).aw (iV (run rs k))=none)(S:Nat)(v':Value) :
 AJ K L base (gs++[⟨S,v',run rs k,nth ls k,way (max (nth ls k) (qx ls rs.length base ((k:Int) - 1))),way (max (nth ls k) (if mh (nth K (jw (run rs k)))then base else qx ls rs.length base ((k:Int)+1)))⟩]) (jL K rs (k+1)).all:=by
 have hall:(jL K rs (k+1)).all=(jL K rs k).all++[run rs k]:=by
  rw[jL,qg,hx]
 refine⟨by rw[hall,dz,h.1];rfl,fun x hx'=>?_⟩
 rcases a_.1 hx' with h1 | h1
 ·exact h.2 x h1
 ·have:=ak.1 h1
  subst this;refine⟨hv k hk,?_,?_⟩
  ·dsimp only[oq];rw[XO hr hv hk,hv k hk]
  ·dsimp only[oq];rw[PU hr hv hk,hv k hk]
theorem Eb {rs:List (List Nat)}{k:Nat}(hk:k<rs.length):(rs.take (k+1)).flatten.length=(rs.take k).flatten.length+(run rs k).length:=by
 rw[eF hk,eY,aD,run_get hk];simp
theorem zo {K:List Int}{rs:List (List Nat)}:∀k,k<=rs.length->∀(s:Nat) y,(jL K rs k).all[s]?=some y->y.length<=(rs.take k).flatten.length
 | 0,_,s,y,h=>by simp[jL]at h
 | k+1,hk,s,y,h=>by
   have ih:=zo (K:=K) (rs:=rs) k (by omega);have ht:=Eb (rs:=rs) (k:=k) (by omega);rw[jL,qg]at h;cases hx:(jL K rs k).aw (iV (run rs k))with
   | some a =>
     rw[hx]at h;dsimp only at h;have ha:=FX K rs k _ _ hx;by_cases e:s=a
     ·subst e
      rw[bn ha]at h;cases h;have h5:=ih s _ (aA ha);rw[aA ha,aD];simp only[dZ];omega
     ·rw[bJ (fun e'=>e e'.symm)]at h
      have:=ih s y h;omega
   | none =>
     rw[hx]at h;dsimp only at h;by_cases e:s<(jL K rs k).all.length
     ·rw[aJ e]at h;have:=ih s y h;omega
     ·rw[aI (by omega)]at h
      have hlt:=(aY.1 h).1;simp at hlt;have h0:s - (jL K rs k).all.length=0:=by omega
      rw[h0]at h;cases h;omega
theorem zq (K:List Int)(rs:List (List Nat)):∀k,(jL K rs k).all.length<=k
 | 0=>au _
 | k+1=>by
   have ih:=zq K rs k;rw[jL,qg];cases hx:(jL K rs k).aw (iV (run rs k))with
   | some a=>dsimp only;rw[bK];omega
   | none=>dsimp only;rw[aD];simp;omega
theorem KG {K L:List Int}{rs:List (List Nat)}(hr:qM K L K.length rs){k:Nat}:(rs.take k).flatten.length<=K.length:=by
 have h1:(rs.take k).flatten.length<=rs.flatten.length:=by
  have:=congrArg List.length (congrArg List.flatten (cY k rs));rw[eY,aD]at this;omega
 have h2:rs.flatten.length<=K.length:=by
  rw[hr.flat,ng];exact aK (List.length_filter_le _ _) (by simp)
 omega
theorem RP.row {W wr:World}{v:Value}{rs:List (List Nat)}{ls:List Int}{hs:List Value}{B:Nat}(h:RP W wr v rs ls hs B)(hne:∀j,j<rs.length->run rs j≠[]){j:Nat}(hj:j<rs.length):∃g c,hs[j]?=some (.slice (some ⟨g,0,none⟩) (run rs j).length c)/\g<wr.heap.size/\wr.ownsRow W.heap.size 3 1 (.slice (some ⟨g,0,none⟩) (run rs j).length c) (run rs j).length (jk (run rs j)):=by
 rcases cH (j+1) rs.length with h1 | h1
 ·obtain⟨g,c,a1,a2,a3⟩:=h.old j h1
  exact⟨g,c,a1,(ji a3).2,a3⟩
 ·obtain⟨x,a1,a2⟩:=h.last j (by omega)
  obtain⟨g,c,rfl⟩:=iQ (bW.2 (hne j hj)) a2;exact⟨g,c,a1,(ji a2).2,iU a2 h.b0.1⟩
end Go.Proofs.YtnakejhohdbfdacGreatDoor

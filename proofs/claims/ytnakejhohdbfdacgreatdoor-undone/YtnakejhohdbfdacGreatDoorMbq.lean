import Derived.Test.YtnakejhohdbfdacGreatDoorMbp
set_option maxHeartbeats 4000000
set_option maxRecDepth 10000
namespace Go.Proofs.YtnakejhohdbfdacGreatDoor.Cls.Dc
open Go.RowKit Dec BA pS Lay j9 Go.Proofs.Tryz
theorem RG (a b:ByteArray){i:Nat}(h:i<a.size):(a++b).get! i=a.get! i:=by
 show((a++b).data[i]!)=(a.data[i]!);rw[ByteArray.data_append];have h':i<a.data.size:=h;rw[getElem!_pos (a.data++b.data) i (by rw[Array.size_append];omega),getElem!_pos a.data i h'];exact Array.getElem_append_left h'
theorem RH (a b:ByteArray){i:Nat}(h:i<b.size):(a++b).get! (a.size+i)=b.get! i:=by
 show((a++b).data[a.data.size+i]!)=(b.data[i]!);rw[ByteArray.data_append];have h':i<b.data.size:=h;rw[getElem!_pos (a.data++b.data) (a.data.size+i) (by rw[Array.size_append];omega),getElem!_pos b.data i h',Array.getElem_append_right (by omega)]
 congr 1
 omega
def enc (r:Int):ByteArray:=⟨(Lib.encodeRune r).toArray⟩
def tu:List Int->ByteArray
 | []=>⟨#[]⟩
 | r :: l=>enc r++tu l
def Ik (r:Int):Prop:=(0<=r/\r<55296)\/(57343<r/\r<=1114111)
theorem KY (a:ByteArray):a++⟨#[]⟩=a:=by
 show a++ByteArray.empty=a;simp
theorem U1 (a:ByteArray):⟨#[]⟩++a=a:=by
 show ByteArray.empty++a=a;simp
theorem uB:∀a b,tu (a++b)=tu a++tu b
 | [],b=>by rw[bT,tu,U1]
 | r :: a,b=>by rw[bV,tu,tu,uB a b,ByteArray.append_assoc]
theorem YO {z:Int}(h0:0<=z)(h:z<256):(z.toNat.toUInt8).toNat=z.toNat:=by
 rw[Nat.toUInt8,UInt8.toNat_ofNat'];exact Nat.mod_eq_of_lt (by omega)
theorem U2 {s:ByteArray}{x:Nat}{r:Int}(hr:Ik r)(hb:∀i,i<(enc r).size->s.get! (x+i)=(enc r).get! i)(hle:x+(enc r).size<=s.size):Utf8.decode s x=(r.toNat,(enc r).size):=by
 have hz:(enc r).size=(Lib.encodeRuneZ r).length:=by simp[enc,Lib.encodeRune,ByteArray.size]
 have hg:∀i z,(Lib.encodeRuneZ r)[i]?=some z->0<=z->z<256->(s.get! (x+i)).toNat=z.toNat:=fun i z h h0 h1=>by
  have hi:i<(Lib.encodeRuneZ r).length:=(aY.1 h).1;rw[hb i (by rw[hz];exact hi),<-YO h0 h1]
  congr 1
  have e:(enc r).data[i]?=some z.toNat.toUInt8:=by
   show((Lib.encodeRune r).toArray)[i]?=_;rw[List.getElem?_toArray,Lib.encodeRune,cA,h];rfl
  show((enc r).data[i]!)=_;rw[Array.getElem!_eq_getD,Array.getD_eq_getD_getElem?,e];rfl
 rw[hz]at hle ⊢
 rcases(show(0<=r/\r<=127)\/(128<=r/\r<=2047)\/((2048<=r/\r<55296)\/(57343<r/\r<=65535))\/(65536<=r/\r<=1114111) by unfold Ik at hr;omega)with⟨h0,h1⟩ | ⟨h0,h1⟩ | h0 | ⟨h0,h1⟩
 ·rw[Lib.encodeRuneZ_one h0 h1]at hg hle ⊢
  have g0:=hg 0 _ rfl (by omega) (by omega);rw[dM]at g0;simp only[Utf8.decode,dM,g0];exact aE (by omega)
 ·rw[Lib.encodeRuneZ_two h0 h1]at hg hle ⊢
  have g0:=hg 0 _ rfl (by omega) (by omega);have g1:=hg 1 _ rfl (by omega) (by omega);rw[dM]at g0;have k0:(192+r / 64).toNat / 32=6:=by omega
  have k1:(128+r % 64).toNat / 64=2:=by omega
  simp only[bg,List.length_nil]at hle;have d1:decide (x+1<s.size)=true:=by simp;omega
  simp only[Utf8.decode,dM,g0,g1,k0,k1,d1,beq_self_eq_true,Bool.and_self];rw[ay (by omega),aE trivial,aE (by omega)];simp only[bg,List.length_nil]
  congr 1
  omega
 ·rw[Lib.encodeRuneZ_three h0]at hg hle ⊢
  have g0:=hg 0 _ rfl (by omega) (by omega);have g1:=hg 1 _ rfl (by omega) (by omega);have g2:=hg 2 _ rfl (by omega) (by omega);rw[dM]at g0;have k6:((224+r / 4096).toNat / 32 == 6)=false:=by simp;omega
  have k0:(224+r / 4096).toNat / 16=14:=by omega
  have k1:(128+r / 64 % 64).toNat / 64=2:=by omega
  have k2:(128+r % 64).toNat / 64=2:=by omega
  simp only[bg,List.length_nil]at hle;have d1:decide (x+1<s.size)=true:=by simp;omega
  have d2:decide (x+2<s.size)=true:=by simp;omega
  have ec:(224+r / 4096).toNat % 16 * 4096+(128+r / 64 % 64).toNat % 64 * 64+(128+r % 64).toNat % 64=r.toNat:=by omega
  simp only[Utf8.decode,dM,g0,g1,g2,k0,k1,k2,k6,d1,d2,beq_self_eq_true,Bool.and_self,Bool.false_and,ec];rw[ay (by omega),ay (by simp),aE trivial,aE]
  ·rfl
  ·unfold Utf8.valid
   simp;omega
 ·rw[Lib.encodeRuneZ_four h0 h1]at hg hle ⊢
  have g0:=hg 0 _ rfl (by omega) (by omega);have g1:=hg 1 _ rfl (by omega) (by omega);have g2:=hg 2 _ rfl (by omega) (by omega);have g3:=hg 3 _ rfl (by omega) (by omega);rw[dM]at g0;have k6:((240+r / 262144).toNat / 32 == 6)=false:=by simp;omega
  have k5:((240+r / 262144).toNat / 16 == 14)=false:=by simp;omega
  have k0:(240+r / 262144).toNat / 8=30:=by omega
  have k1:(128+r / 4096 % 64).toNat / 64=2:=by omega
  have k2:(128+r / 64 % 64).toNat / 64=2:=by omega
  have k3:(128+r % 64).toNat / 64=2:=by omega
  simp only[bg,List.length_nil]at hle;have d1:decide (x+1<s.size)=true:=by simp;omega
  have d2:decide (x+2<s.size)=true:=by simp;omega
  have d3:decide (x+3<s.size)=true:=by simp;omega
  have ec:(240+r / 262144).toNat % 8 * 262144+(128+r / 4096 % 64).toNat % 64 * 4096+(128+r / 64 % 64).toNat % 64 * 64+(128+r % 64).toNat % 64=r.toNat:=by omega
  simp only[Utf8.decode,dM,g0,g1,g2,g3,k0,k1,k2,k3,k6,k5,d1,d2,d3,beq_self_eq_true,Bool.and_self,Bool.false_and,ec];rw[ay (by omega),ay (by simp),ay (by simp),aE trivial,aE]
  ·rfl
  ·unfold Utf8.valid
   simp;omega
theorem U3 (r:Int):1<=(enc r).size:=by
 have:=(Lib.encodeRuneZ_length r).1;simpa[enc,Lib.encodeRune,ByteArray.size] using this
theorem RI {l:List Int}{k:Nat}(hk:k<l.length):tu l=tu (l.take k)++(enc (l.getD k 0)++tu (l.drop (k+1))):=by
 have h:l=l.take k++(l.getD k 0 :: l.drop (k+1)):=by
  conv=>lhs;rw[<-cY k l]
  rw[cZ hk];simp[List.getD,hk]
 conv=>lhs;rw[h,uB,tu]
theorem RJ {l:List Int}(hl:∀r∈l,Ik r){k:Nat}(hk:k<l.length):Utf8.decode (tu l) (tu (l.take k)).size=((l.getD k 0).toNat,(enc (l.getD k 0)).size):=by
 have hc:=RI hk;refine U2 (hl _ (by simp[List.getD,hk])) (fun i hi=>?_) ?_
 ·rw[hc,RH _ _ (by rw[dB];omega),RG _ _ hi]
 ·rw[hc,dB,dB];omega
theorem zI {l:List Int}(hl:∀r∈l,Ik r):∀k,k<=l.length->Dec.pos (tu l) k=(tu (l.take k)).size
 | 0,_=>by rw[eZ];rfl
 | k+1,hk=>by
   rw[Dec.pos,zI hl k (by omega),RJ hl (by omega)];have h:l.take (k+1)=l.take k++[l.getD k 0]:=by rw[eU];simp[List.getD,show k<l.length by omega]
   rw[h,uB,dB,tu,tu,KY]
theorem U4 {l:List Int}(hl:∀r∈l,Ik r):Dec.Ends (tu l) l.length:=by
 refine⟨by rw[zI hl _ (au _),c_],fun j hj=>?_⟩;rw[zI hl j (by omega),RI hj,dB,dB];have:=U3 (l.getD j 0);omega
theorem U5 {l:List Int}(hl:∀r∈l,Ik r){k:Nat}(hk:k<l.length):Dec.rune (tu l) k=l.getD k 0:=by
 rw[Dec.rune,zI hl k (by omega),RJ hl hk];have:=hl (l.getD k 0) (by simp[List.getD,hk]);unfold Ik at this;dsimp only;omega
theorem U6 {l:List Int}(hl:∀r∈l,Ik r){k:Nat}(hk:k<=l.length):(tu l).extract 0 (Dec.pos (tu l) k)=tu (l.take k):=by
 rw[zI hl k hk];have h:tu l=tu (l.take k)++tu (l.drop k):=by rw[<-uB,cY]
 rw[h];exact ByteArray.extract_append_eq_left rfl
theorem RK {l:List Int}(hl:∀r∈l,Ik r){k:Nat}(hk:k<=l.length):(tu l).extract (Dec.pos (tu l) k) (tu l).size=tu (l.drop k):=by
 rw[zI hl k hk];have h:tu l=tu (l.take k)++tu (l.drop k):=by rw[<-uB,cY]
 rw[h];exact ByteArray.extract_append_eq_right rfl (by rw[dB])
theorem U7 (s:ByteArray)(p:Nat):Ik ((Utf8.decode s p).1:Int):=by
 unfold Ik;have hlt:=(s.get! p).toNat_lt;simp only[Utf8.decode,dM];split
 ·dsimp only;omega
 ·split
  ·split
   ·dsimp only;omega
   ·dsimp only[Utf8.runeError];omega
  ·split
   ·split
    ·rename_i h;simp[Utf8.valid]at h;dsimp only;omega
    ·dsimp only[Utf8.runeError];omega
   ·split
    ·split
     ·rename_i h;simp[Utf8.valid]at h;dsimp only;omega
     ·dsimp only[Utf8.runeError];omega
    ·dsimp only[Utf8.runeError];omega
structure Vt (l:List Int):Prop where
 s:∀r∈l,Ik r
 b:∀r∈l,jg.look jg.iY r≠10
 z:(tu l).size<=400
theorem Vt.ends {l:List Int}(h:Vt l):Dec.Ends (tu l) l.length:=U4 h.s
theorem Vt.cls {l:List Int}(h:Vt l):∀k,k<l.length->jg.look jg.iY (Dec.rune (tu l) k)≠10:=fun k hk=>by
 rw[U5 h.s hk];exact h.b _ (by simp[List.getD,hk])
def qI (s:ByteArray)(n:Nat):List Int:=(List.range n).map (fun k=>ZN (Dec.rune s k))
theorem Dg (s:ByteArray):∀n,cln s n=tu (qI s n)
 | 0=>rfl
 | n+1=>by
   have h:qI s (n+1)=qI s n++[ZN (Dec.rune s n)]:=by rw[qI,eS,dz];rfl
   rw[h,uB,<-Dg s n,tu,tu,KY];unfold cln enc;rw[SK,Go.ByteArray.mk_append_mk]
theorem Fj (s:ByteArray)(n:Nat):∀r∈qI s n,Ik r/\jg.look jg.iY r≠10:=fun r hr=>by
 obtain⟨k,_,rfl⟩:=dX.1 hr;dsimp only[ZN];split
 ·exact⟨.inl (by omega),by decide⟩
 ·rename_i h
  exact⟨U7 s _,h⟩
theorem YP {l c:List Int}(hl:∀r∈l,Ik r){a b:Nat}(ha:a<=l.length)(hb:b<=l.length):(tu l).extract 0 (Dec.pos (tu l) a)++tu c++(tu l).extract (Dec.pos (tu l) b) (tu l).size=tu (l.take a++c++l.drop b):=by
 rw[U6 hl ha,RK hl hb,uB,uB]
theorem YQ {l c:List Int}(h:Vt l)(hc:∀r∈c,Ik r/\jg.look jg.iY r≠10)(a b:Nat)(hz:(tu (l.take a++c++l.drop b)).size<=400):Vt (l.take a++c++l.drop b):=by
 have hm:∀r,r∈l.take a++c++l.drop b->r∈l\/r∈c:=fun r hr=>by
  rcases a_.1 hr with h1 | h1
  ·rcases a_.1 h1 with h2 | h2
   ·exact .inl (eB h2)
   ·exact .inr h2
  ·exact .inl (List.mem_of_mem_drop h1)
 exact⟨fun r hr=>(hm r hr).elim (h.s r) (fun k=>(hc r k).1),fun r hr=>(hm r hr).elim (h.b r) (fun k=>(hc r k).2),hz⟩
theorem YR (s:ByteArray){n k:Nat}(h:k∈jd s n):k<=n:=by
 unfold jd at h;split at h
 ·simp at h;omega
 ·rcases a_.1 h with h1 | h1
  ·have:=qA s n k h1;omega
  ·simp at h1;omega
theorem uX {l:List Int}(h:Vt l){o:Int}(ho:o∈bnd (tu l) l.length):∃k,k<=l.length/\o=((Dec.pos (tu l) k:Nat):Int):=by
 rw[xI h.ends]at ho;obtain⟨k,hk,e⟩:=dX.1 ho;exact⟨k,YR _ hk,e.symm⟩
theorem KZ {Bd:List Int}{z o:Int}{b:Bool}(h:jN Bd z)(hp:NV Bd z (o,b)):o∈Bd:=by
 have e:(iR Bd z o b).1=o:=congrArg Prod.fst hp;obtain⟨j,hj,e2⟩:=rW h (min (max o 0) z) Bd.length (au _);have e3:best Bd (min (max o 0) z) Bd.length=o:=e;rw[e3]at e2;rw[<-e2];exact Be hj
structure Mo where
 l:List Int
 ao:Int
 ab:Bool
 fo:Int
 fb:Bool
def Mo.c (m:Mo):List Value:=Df (tu m.l) m.ao m.ab m.fo m.fb
def qp:List Mo->List Value
 | []=>[]
 | m :: l=>m.c++qp l
theorem Fl:∀us,(qp us).length=us.length * 5
 | []=>rfl
 | m :: l=>by rw[qp,aD,Fl l,bg];simp[Mo.c];omega
theorem yw:∀a b,qp (a++b)=qp a++qp b
 | [],_=>rfl
 | m :: a,b=>by rw[bV,qp,qp,yw a b,dF]
theorem K3:∀us,∀u∈qp us,u.oneCell'=true
 | [],u,h=>by cases h
 | m :: l,u,h=>by
   rcases a_.1 h with h1 | h1
   ·exact Bk _ _ _ _ _ u h1
   ·exact K3 l u h1
def yx (us:List Mo)(m:Mo):List Mo:=if us.length=6 then(us++[m]).tail else us++[m]
theorem YS (us:List Mo)(m:Mo):Nu us.length (qp us) m.c=qp (yx us m):=by
 have h:qp us++m.c=qp (us++[m]):=by rw[yw];simp[qp]
 unfold Nu yx;split
 ·rename_i h6
  rw[h];cases us with
  | nil=>cases h6
  | cons a l=>rw[bV,qp,List.tail_cons];exact List.drop_left' rfl
 ·exact h
theorem Hi (us:List Mo)(m:Mo):JR us.length=(yx us m).length:=by
 unfold JR yx;split
 ·rename_i h;simp[h]
 ·simp
structure jY (w:World)(B D:Nat)(R:Int)(l:List Int)(ao:Int)(ab:Bool)(fo:Int)(fb:Bool)(us rs:List Mo)(lo hi:Nat):Prop where
 x:∃vB Z P Bl V Ls vU vR L aim goal,w.heap[D]?=some (.cells (zH 2 10 20 R (tu l) vB Z vU vR) 85 (0,0))/\w.heap[Z]?=some (.cells (kL P ao ab fo fb aim goal) 134 (0,0))/\Laid (yj w Z) Bl P (bnd (tu l) l.length) V ((tu l).size:Nat) Ls/\w.ownsRow B 116 5 vU us.length (qp us)/\w.ownsRow B 116 5 vR rs.length (qp rs)/\(∀g,vU.ownBlock=some g->vR.ownBlock≠some g)/\w.ownsRow B 3 1 vB L.length (iS L)/\L.length<=5000/\lo<=Bl/\Bl<=Z/\Z<hi/\B<=Z
 pa:NV (bnd (tu l) l.length) ((tu l).size:Nat) (ao,ab)
 pf:NV (bnd (tu l) l.length) ((tu l).size:Nat) (fo,fb)
 t:Vt l
 mu:∀m∈us,Vt m.l
 mr:∀m∈rs,Vt m.l
 n6:us.length+rs.length<=6
 r:-9223372036854775808<=R/\R<=9223372036854775807
 bD:B<=D
 b9:9<B
 g:Gr w
 bw:B<=w.heap.size
 hw:hi<=w.heap.size
theorem Laid.cut {S:List Nat}{w w':World}{Z Bl P:Nat}{Bd V:List Int}{z:Int}{Ls:List Ln}(h:Laid (yj w Z) Bl P Bd V z Ls)(hf:Fr S w w')(hZ:Z<=w.heap.size)(hS:∀k∈S,k<Bl\/Z<=k):Laid (yj w' Z) Bl P Bd V z Ls:=by
 refine h.fr (S:=S.filter (fun k=>decide (k<Bl))) ⟨hf.os,hf.tape,hf.output,(Eo hf hZ).size,fun k hk hn=>?_⟩ (fun k hk=>dD (dJ.1 hk).2);refine(Eo hf hZ).block k hk (fun hm=>hn ?_);rw[nN hZ]at hk
 rcases hS k hm with h1 | h1
 ·exact dJ.2 ⟨hm,bQ h1⟩
 ·omega
theorem jY.fr {w w':World}{B D lo hi:Nat}{R ao fo:Int}{l:List Int}{ab fb:Bool}{us rs:List Mo}(h:jY w B D R l ao ab fo fb us rs lo hi)(hf:Fr [] w w'):jY w' B D R l ao ab fo fb us rs lo hi:=by
 obtain⟨vB,Z,P,Bl,V,Ls,vU,vR,L,aim,goal,q1,q2,q3,q4,q5,q6,q7,q8⟩:=h.x;exact⟨⟨vB,Z,P,Bl,V,Ls,vU,vR,L,aim,goal,iJ q1 hf aj,iJ q2 hf aj,q3.cut hf (b7 (iO q2)) (fun k hk=>absurd hk aj),iM q4 hf,iM q5 hf,q6,iM q7 hf,q8⟩,h.pa,h.pf,h.t,h.mu,h.mr,h.n6,h.r,h.bD,h.b9,h.g.fr hf (fun k hk=>absurd hk aj),aK h.bw hf.size,aK h.hw hf.size⟩
theorem jY.ZS {w w':World}{B D lo hi k:Nat}{R ao fo:Int}{l:List Int}{ab fb:Bool}{us rs:List Mo}{cs:Array Value}{f:Nat × Nat}(h:jY w B D R l ao ab fo fb us rs lo hi)(hf:Fr [k] w w')(hk:w.heap[k]?=some (.cells cs 34 f))(hl:k<lo\/hi<=k)(h9:9<k):jY w' B D R l ao ab fo fb us rs lo hi:=by
 obtain⟨vB,Z,P,Bl,V,Ls,vU,vR,L,aim,goal,q1,q2,q3,q4,q5,q6,q7,q8,q9,Wy,Wz,WA⟩:=h.x;have ne:∀ {x:Nat} {c:Array Value} {t:TypeId} {f':Nat × Nat},w.heap[x]?=some (.cells c t f')->t≠34->x ∉ [k]:=fun hx ht hm=>by
  have:=ak.1 hm;subst this;rw[hk]at hx;cases hx;exact ht rfl
 have no:∀ {e:TypeId} {size n:Nat} {v:Value} {xs:List Value},w.ownsRow B e size v n xs->e≠34->w'.ownsRow B e size v n xs:=fun ho he=>Wr.jU ho (fun g hg=>hf.block g (ho.lt g hg).2 (fun hm=>own_ne ho hk (fun c f' h=>he (by cases h;rfl)) (by rw[<-ak.1 hm];exact hg.symm)))
 exact⟨⟨vB,Z,P,Bl,V,Ls,vU,vR,L,aim,goal,iJ q1 hf (ne q1 (by decide)),iJ q2 hf (ne q2 (by decide)),q3.cut hf (b7 (iO q2)) (fun j hj=>by rw[ak.1 hj];omega),no q4 (by decide),no q5 (by decide),q6,no q7 (by decide),q8,q9,Wy,Wz,WA⟩,h.pa,h.pf,h.t,h.mu,h.mr,h.n6,h.r,h.bD,h.b9,h.g.fr hf (fun j hj=>by rw[ak.1 hj];exact h9),aK h.bw hf.size,aK h.hw hf.size⟩
structure lM (w w':World)(B D:Nat):Prop where
 os:w'.os=w.os
 tape:w'.tape=w.tape
 output:w'.output=w.output
 size:w.heap.size<=w'.heap.size
 block:∀k,k<w.heap.size->k≠D->(∀c f,w.heap[k]?≠some (.cells c 116 f))->(∀c f,w.heap[k]?≠some (.cells c 134 f))->w'.heap[k]?=w.heap[k]?
 low:∀k,k<B->k<w.heap.size->w'.heap[k]?=w.heap[k]?
theorem lM.FA {w w':World}{B D:Nat}(hf:Fr [] w w'):lM w w' B D :=
 ⟨hf.os,hf.tape,hf.output,hf.size,fun k hk _ _ _=>hf.block k hk aj,fun k _ hl=>hf.block k hl aj⟩
theorem lM.trans {w w1 w':World}{B D:Nat}(h:lM w w1 B D)(k:lM w1 w' B D):lM w w' B D :=
 ⟨k.os.trans h.os,k.tape.trans h.tape,k.output.trans h.output,aK h.size k.size,fun x hx hne h1 h2=>(k.block x (aM hx h.size) hne (fun c f e=>h1 c f ((h.block x hx hne h1 h2).symm.trans e)) (fun c f e=>h2 c f ((h.block x hx hne h1 h2).symm.trans e))).trans (h.block x hx hne h1 h2),fun x hx hl=>(k.low x hx (aM hl h.size)).trans (h.low x hx hl)⟩
theorem lM.obj {w w':World}{B D k:Nat}{cs:Array Value}{t:TypeId}{f:Nat × Nat}(h:lM w w' B D)(hk:w.heap[k]?=some (.cells cs t f))(hne:k≠D)(ht:t≠116)(hs:t≠134):w'.heap[k]?=some (.cells cs t f) :=
 (h.block k (iO hk) hne (fun c f' e=>ht (by rw[hk]at e;cases e;rfl)) (fun c f' e=>hs (by rw[hk]at e;cases e;rfl))).trans hk
theorem lM.of {S:List Nat}{w w':World}{B D:Nat}(h:Fr S w w')(hS:∀k∈S,B<=k/\(k=D\/(∃c f,w.heap[k]?=some (.cells c 116 f))\/(∃c f,w.heap[k]?=some (.cells c 134 f)))):lM w w' B D :=
 ⟨h.os,h.tape,h.output,h.size,fun k hk hne h1 h2=>h.block k hk (fun hm=>by
  rcases(hS k hm).2 with q | ⟨c,f,q⟩ | ⟨c,f,q⟩
  ·exact hne q
  ·exact h1 c f q
  ·exact h2 c f q),fun k hk hl=>h.block k hl (fun hm=>by have:=(hS k hm).1;omega)⟩
theorem lM.own {w w1 w':World}{B D k:Nat}(h:lM w w1 B D)(hf:Fr [k] w1 w')(hk:w.heap.size<=k/\B<=k):lM w w' B D :=
 ⟨hf.os.trans h.os,hf.tape.trans h.tape,hf.output.trans h.output,aK h.size hf.size,fun x hx hne h1 h2=>(hf.block x (aM hx h.size) (fun hm=>by have:=ak.1 hm;omega)).trans (h.block x hx hne h1 h2),fun x hx hl=>(hf.block x (aM hl h.size) (fun hm=>by have:=ak.1 hm;omega)).trans (h.low x hx hl)⟩
theorem Nw {w:World}{B g cap k:Nat}{us:List Mo}{m:Mo}(h:w.ownsRow B 116 5 (.slice (some ⟨g,0,none⟩) (k+1) cap) (k+1) (qp (us++[m])))(hk:us.length=k):w.cell? ⟨g,k * 5,none⟩=some (.string (tu m.l))/\w.cell? ⟨g,k * 5+1,none⟩=some (.int .i64 m.ao)/\w.cell? ⟨g,k * 5+2,none⟩=some (.bool m.ab)/\w.cell? ⟨g,k * 5+3,none⟩=some (.int .i64 m.fo)/\w.cell? ⟨g,k * 5+4,none⟩=some (.bool m.fb):=by
 have hl:(qp us).length=k * 5:=by rw[Fl,hk]
 have key:∀j v,j<5->m.c[j]?=some v->w.cell? ⟨g,k * 5+j,none⟩=some v:=fun j v hj hv=>by
  rw[h.cellAt _ (by omega),yw,aI (by omega),hl,Nat.add_sub_cancel_left];simpa[qp] using hv
 exact⟨key 0 _ (by decide) rfl,key 1 _ (by decide) rfl,key 2 _ (by decide) rfl,key 3 _ (by decide) rfl,key 4 _ (by decide) rfl⟩
theorem RL {us:List Mo}{m:Mo}{k:Nat}(hk:us.length=k):(qp (us++[m])).take (k * 5)=qp us:=by
 rw[yw];exact List.take_left' (by rw[Fl,hk])
theorem Er (D i j B g cap k n:Nat)(cs:Array Value)(NW:Value)(us rs:List Mo)(m:Mo)(nl:List Int)(ao fo:Int)(ab fb:Bool)(w:World)(hD:w.heap[D]?=some (.cells cs 85 (0,0)))(hi:cs[i]?=some (.slice (some ⟨g,0,none⟩) (k+1) cap))(hj:cs[j]?=some NW)(hij:i≠j)(hO:w.ownsRow B 116 5 (.slice (some ⟨g,0,none⟩) (k+1) cap) (k+1) (qp (us++[m])))(hk:us.length=k)(hN:w.ownsRow B 116 5 NW n (qp rs))(hn:rs.length=n)(hne:NW.ownBlock≠some g)(h6:k+1+n<=6)(hB:B<=w.heap.size) :
 Calls prog 99 #[.pointer (some ⟨D,i,none⟩),.pointer (some ⟨D,j,none⟩),.agg #[.string (tu nl),.int .i64 ao,.bool ab,.int .i64 fo,.bool fb]] w fun e w'=>e=.returned (.tuple #[.agg #[.string (tu m.l),.int .i64 m.ao,.bool m.ab,.int .i64 m.fo,.bool m.fb],.bool true])/\∃pQ,w'.heap[D]?=some (.cells ((cs.setIfInBounds i (.slice (some ⟨g,0,none⟩) k cap)).setIfInBounds j pQ) 85 (0,0))/\w'.ownsRow B 116 5 (.slice (some ⟨g,0,none⟩) k cap) k (qp us)/\w'.ownsRow B 116 5 pQ (n+1) (qp (rs++[⟨nl,ao,ab,fo,fb⟩]))/\pQ.ownBlock≠some g/\(∀x,pQ.ownBlock=some x->NW.ownBlock=some x\/w.heap.size<=x)/\Fr (D :: g :: NW.ownBlock.toList) w w':=by
 obtain⟨i0,hi0,hz0,hz1,hz2⟩:=oV;obtain⟨wb,hwb⟩:∃wb,wb=(w.alloc (.cells #[.string (tu nl),.int .i64 ao,.bool ab,.int .i64 fo,.bool fb] 116)).alloc (.cells #[.string ⟨#[]⟩,.int .i64 0,.bool false,.int .i64 0,.bool false] 116):=⟨_,rfl⟩;have j8:=hid (show Fr [] w wb by rw[hwb];exact((Fr.refl [] w).alloc _).alloc _);have Gt:=hid (show wb.heap.size=w.heap.size+2 by rw[hwb,fD,fD]);have Nx:=hid (show wb.heap[w.heap.size]?=some (.cells #[.string (tu nl),.int .i64 ao,.bool ab,.int .i64 fo,.bool fb] 116 (0,0)) by rw[hwb];exact iJ (iL w _) ((Fr.refl [] _).alloc _) aj)
 have yF:=hid (show wb.heap[w.heap.size+1]?=some (.cells #[.string ⟨#[]⟩,.int .i64 0,.bool false,.int .i64 0,.bool false] 116 (0,0)) by
  have h:=iL (w.alloc (.cells #[.string (tu nl),.int .i64 ao,.bool ab,.int .i64 fo,.bool fb] 116)) (.cells #[.string ⟨#[]⟩,.int .i64 0,.bool false,.int .i64 0,.bool false] 116)
  rw[<-hwb]at h;simpa using h)
 have uz:=hid (iJ hD j8.out aj);have hDl:=iO hD;have nD:=hid (iM hO j8.out);have Fx:=hid (iM hN j8.out);have hgl:=(hO.lt g rfl).2;have HGW:=hid hgl;obtain⟨c0,c1,c2,c3,c4⟩:=Nw nD.out hk;have d1:=iG uz.out hi;rw[hwb]at c0 c1 c2 c3 c4 d1;have hkc:k+1<=cap:=by
  obtain⟨a,c,e,h⟩:=Wr.jo hO;cases e;exact h
 have HT:=hid (RL (m:=m) hk);obtain⟨w1,hw1⟩:∃w1,w1=wb.alloc (.cells #[.string (tu m.l),.int .i64 m.ao,.bool m.ab,.int .i64 m.fo,.bool m.fb] 116):=⟨_,rfl⟩;have nH:=hid (show Fr [] wb w1 by rw[hw1];exact(Fr.refl [] wb).alloc _);have ZB:=hid (show w1.heap[wb.heap.size]?=some (.cells #[.string (tu m.l),.int .i64 m.ao,.bool m.ab,.int .i64 m.fo,.bool m.fb] 116 (0,0)) by rw[hw1];exact iL wb _);have Wx:=hid (Hg g cap B k _ w1 (by omega) (iM nD.out nH.out));rw[HT.out]at Wx;have l9:=hid (show w1.heap.size=w.heap.size+3 by rw[hw1,fD,Gt.out]);have d1b:=iG (iJ uz.out nH.out aj) hi;rw[hw1,hwb]at d1b;have HIJ:=hid hij;have HI:=hid hi;have HJ:=hid hj;have Fq:=hid hne;have HVL:=hid (show ∀x,NW.ownBlock=some x->x<w.heap.size from fun x hx=>(hN.lt x hx).2);have HRS:=hid hn;have hDg:D≠g:=fun e=>own_ne hO hD (fun c f h=>by cases h) (by rw[e];rfl)
 clear hD hO hN hi hj hij hne hk hn;go_enter func99,ntmps99;go_wp2_with fail;rw[<-hwb];clear hwb;rw[<-hw1];clear hw1 c0 c1 c2 c3 c4 d1 d1b;refine Wx.out.mono ?_;rintro e w2 ⟨rfl,jR,hf2⟩;have i_:=hid (show Fr [g] w w2 from((j8.out.trans nH.out).mono (fun k hk=>absurd hk aj)).trans hf2);have jO:=hid jR;have HD2:=hid (iJ (iJ uz.out nH.out aj) hf2 (fun h=>hDg (ak.1 h)));have hsz2:=hf2.size;have d2:=iG HD2.out HI.out;have k2:=iH HD2.out i;clear jR Wx;go_wp2_with fail;obtain⟨w3,hw3⟩:∃w3,w3=w2.setCell ⟨D,i,none⟩ (.slice (some ⟨g,0,none⟩) k cap):=⟨_,rfl⟩;have n_:=hid (show Fr [D] w2 w3 by rw[hw3];exact(Fr.refl [D] w2).set bX _);have HD3:=hid (show w3.heap[D]?=some (.cells (cs.setIfInBounds i (.slice (some ⟨g,0,none⟩) k cap)) 85 (0,0)) by rw[hw3];exact iI HD2.out i _);have lD:=hid (show w3.ownsRow B 116 5 (.slice (some ⟨g,0,none⟩) k cap) k (qp us) by rw[hw3];exact nA jO.out (fun e=>hDg (aZ e).symm))
 have XK:=hid (show w3.ownsRow B 116 5 NW n (qp rs) by
  rw[hw3]
  refine nA (Wr.jU (iM Fx.out nH.out) (fun x hx=>hf2.block x ((iM Fx.out nH.out).lt x hx).2 (fun hm=>Fq.out (by rw[<-ak.1 hm];exact hx)))) (fun e=>?_)
  exact own_ne Fx.out uz.out (fun c f h=>by cases h) e.symm)
 have HJ3:=hid (show(cs.setIfInBounds i (.slice (some ⟨g,0,none⟩) k cap))[j]?=some NW by rw[Array.getElem?_setIfInBounds_ne HIJ.out];exact HJ.out);have aj9:w.heap.size<w2.heap.size:=by have:=l9.out;omega
 have HB3:=hid (show w3.heap[w.heap.size]?=some (.cells #[.string (tu nl),.int .i64 ao,.bool ab,.int .i64 fo,.bool fb] 116 (0,0))from iJ (iJ (iJ Nx.out nH.out aj) hf2 (fun h=>by have:=ak.1 h;omega)) n_.out (fun h=>by have:=ak.1 h;omega));have HR3:=hid (show w3.heap[w.heap.size+1]?=some (.cells #[.string ⟨#[]⟩,.int .i64 0,.bool false,.int .i64 0,.bool false] 116 (0,0))from iJ (iJ (iJ yF.out nH.out aj) hf2 (fun h=>by have:=ak.1 h;omega)) n_.out (fun h=>by have:=ak.1 h;omega));have Xe:=hid (show w3.heap[wb.heap.size]?=some (.cells #[.string (tu m.l),.int .i64 m.ao,.bool m.ab,.int .i64 m.fo,.bool m.fb] 116 (0,0))from iJ (iJ ZB.out hf2 (fun h=>by have:=ak.1 h;have:=Gt.out;omega)) n_.out (fun h=>by have:=ak.1 h;have:=Gt.out;omega));have NO:=hid (show w.heap.size+3<=w3.heap.size by have:=l9.out;have:=n_.out.size;omega);have jQ:=hid (show Fr (D :: g :: NW.ownBlock.toList) w w3 from(i_.out.mono (fun x hx _=>by rw[ak.1 hx];simp)).trans (n_.out.mono (fun x hx _=>by rw[ak.1 hx];simp)));rw[<-hw3];clear hw3 d2 k2 hf2;have d3:=iG HD3.out HJ3.out;have m0:=iG HB3.out (i:=0) (v:=.string (tu nl)) rfl;have m1:=iG HB3.out (i:=1) (v:=.int .i64 ao) rfl;have m2:=iG HB3.out (i:=2) (v:=.bool ab) rfl;have m3:=iG HB3.out (i:=3) (v:=.int .i64 fo) rfl;have m4:=iG HB3.out (i:=4) (v:=.bool fb) rfl;have SM:D<w3.heap.size:=iO HD3.out;have Fw:=hid (own_ne XK.out HD3.out (fun c f h=>by cases h));go_region_law (refine oD rfl (.tmp 36) (.tmp 38) 81 rfl B 116 i0 _ 5 48 underlying81 hi0 hz0 hz1 hz2 rfl (by decide) NW n (qp rs) ?q1 ?q2 ⟨w3.heap.size,0,none⟩ 1 1 (Df (tu nl) ao ab fo fb) ?q3 rfl ?q4 (Bk _ _ _ _ _) (by unfold maxLen;omega) (by omega) ?q5 ?_;(case q1=>simp[Act.eval]);(case q2=>exact iM XK.out (((Fr.refl [] w3).drew).alloc _));(case q3=>simp[Act.eval]);(case q4=>exact kM _ _ _ _ (by simp));(case q5=>simp;have:=NO.out;omega);intro v' w4 hown hgrow hor;have KE:=hid hown;have vI:=hid hgrow;have Cz:=hid hor;have HD4:=hid (show w4.heap[D]?=some (.cells (cs.setIfInBounds i (.slice (some ⟨g,0,none⟩) k cap)) 85 (0,0))from(hgrow.block D (by simp;omega) Fw.out).trans ((gC _ _ _ SM).trans HD3.out));have d4:=iG HD4.out HJ3.out;have k4:=iH HD4.out j;obtain⟨g',c',hv'⟩:=jl (by omega) hown;subst hv';clear hown hgrow hor)
 all_goals (
  obtain⟨w5,nK⟩:∃w5,w5=w4.setCell ⟨D,j,none⟩ (.slice (some ⟨g',0,none⟩) (n+1) c'):=⟨_,rfl⟩
  have hb4:∀b,w.heap.size<=b->b<w3.heap.size->w4.heap[b]?=w3.heap[b]?:=fun b h1 h2=>(vI.out.block b (by simp;omega) (fun e=>by have:=HVL.out _ e.symm;omega)).trans (gC _ _ _ h2)
  have hs3:=NO.out
  have HM4:=hid (show w4.heap[w.heap.size+1+1]?=some (.cells #[.string (tu m.l),.int .i64 m.ao,.bool m.ab,.int .i64 m.fo,.bool m.fb] 116 (0,0))from(hb4 _ (by omega) (by omega)).trans (by have h:=Xe.out;rw[Gt.out]at h;exact h))
  have HR4:=hid (show w4.heap[w.heap.size+1]?=some (.cells #[.string ⟨#[]⟩,.int .i64 0,.bool false,.int .i64 0,.bool false] 116 (0,0))from(hb4 _ (by omega) (by omega)).trans HR3.out)
  have kD:=hid (show Fr [D] w4 w5 by rw[nK];exact(Fr.refl [D] w4).set bX _)
  have TV:=hid (iJ HM4.out kD.out (fun h=>by have:=ak.1 h;omega))
  have je:=hid (iJ HR4.out kD.out (fun h=>by have:=ak.1 h;omega))
  have HD5:=hid (show w5.heap[D]?=some (.cells ((cs.setIfInBounds i (.slice (some ⟨g,0,none⟩) k cap)).setIfInBounds j (.slice (some ⟨g',0,none⟩) (n+1) c')) 85 (0,0)) by rw[nK];exact iI HD4.out j _)
  have YN:g'≠D:=fun e=>own_ne KE.out HD4.out (fun c f h=>by cases h) (by rw[e];rfl)
  have hgg:g'≠g:=fun e=>by
   rcases Cz.out with h | h
   ·exact Fq.out (by rw[<-h,e];rfl)
   ·have h':=aZ h
    rw[e]at h'
    have:=HGW.out
    simp at h'
    omega
  have rK:=hid (show w5.ownsRow B 116 5 (.slice (some ⟨g,0,none⟩) k cap) k (qp us) by
   rw[nK]
   refine nA (Wr.jU lD.out (fun x hx=>?_)) (fun e=>hDg (aZ e).symm)
   obtain rfl:g=x:=aZ hx
   exact(vI.out.block g (by simp;have:=HGW.out;omega) (fun e=>Fq.out e.symm)).trans (gC _ _ _ (by have:=HGW.out;omega)))
  have HN5:=hid (show w5.ownsRow B 116 5 (.slice (some ⟨g',0,none⟩) (n+1) c') (n+1) (qp (rs++[⟨nl,ao,ab,fo,fb⟩])) by
   rw[nK,yw,show qp [⟨nl,ao,ab,fo,fb⟩]=Df (tu nl) ao ab fo fb by simp[qp,Mo.c]]
   exact nA KE.out (fun e=>YN (aZ e)))
  have jI:=hid (show Fr (D :: g :: NW.ownBlock.toList) w w4 from Fr.Ja ((jQ.out.alloc _).drew) ⟨vI.out.os,vI.out.tape,vI.out.output,vI.out.size,vI.out.block⟩ (fun x hx=>.inl (by rw[hx];simp)))
  have pF:=hid (show Fr (D :: g :: NW.ownBlock.toList) w w5 from jI.out.trans (kD.out.mono (fun x hx _=>by rw[ak.1 hx];simp)))
  rw[<-nK]
  clear nK d3 d4 k4 m0 m1 m2 m3 m4
  have e0:=iG TV.out (i:=0) (v:=.string (tu m.l)) rfl
  have e1:=iG TV.out (i:=1) (v:=.int .i64 m.ao) rfl
  have e2:=iG TV.out (i:=2) (v:=.bool m.ab) rfl
  have e3:=iG TV.out (i:=3) (v:=.int .i64 m.fo) rfl
  have e4:=iG TV.out (i:=4) (v:=.bool m.fb) rfl
  have r0:=iG je.out (i:=0) (v:=.string ⟨#[]⟩) rfl
  have r1:=iG je.out (i:=1) (v:=.int .i64 0) rfl
  have r2:=iG je.out (i:=2) (v:=.bool false) rfl
  have r3:=iG je.out (i:=3) (v:=.int .i64 0) rfl
  have r4:=iG je.out (i:=4) (v:=.bool false) rfl
  have q0:=iH je.out 0
  have q1:=iH je.out 1
  have q2:=iH je.out 2
  have q3:=iH je.out 3
  have q4:=iH je.out 4
  have AN:=hid (show g'≠w.heap.size+1 from fun e=>by
   rcases Cz.out with h | h
   ·have:=HVL.out g' (h.symm.trans rfl)
    omega
   ·have h':=aZ h
    rw[e]at h'
    simp at h'
    omega)
  go_wp2
  refine fE (iX rfl _ _ (w.heap.size+1) 116 _ (0,0) _ rfl (iI (iI (iI (iI (iI je.out 0 _) 1 _) 2 _) 3 _) 4 _) underlying116 rfl (by kernel_rfl)) rfl ?_
  have hfr:∀a b c d e:Value,Fr [w.heap.size+1] w5 (((((w5.setCell ⟨w.heap.size+1,0,none⟩ a).setCell ⟨w.heap.size+1,1,none⟩ b).setCell ⟨w.heap.size+1,2,none⟩ c).setCell ⟨w.heap.size+1,3,none⟩ d).setCell ⟨w.heap.size+1,4,none⟩ e):=fun a b c d e=>by
   iterate 5 refine Fr.set ?_ (ak.2 rfl) _
   exact Fr.refl _ _
  have hge:w.heap.size<=w.heap.size+1:=aF _
  refine⟨by simp,.slice (some ⟨g',0,none⟩) (n+1) c',iJ HD5.out (hfr _ _ _ _ _) (fun h=>by have:=ak.1 h;omega),Wr.jU rK.out (fun x hx=>(hfr _ _ _ _ _).block x (rK.out.lt x hx).2 (fun hm=>?_)),Wr.jU HN5.out (fun x hx=>(hfr _ _ _ _ _).block x (HN5.out.lt x hx).2 (fun hm=>?_)),fun e=>hgg (aZ e),fun x hx=>?_,?_⟩
  ·have h1:=ak.1 hm
   have h2:g=x:=aZ hx
   have:=HGW.out
   omega
  ·have h1:=ak.1 hm
   have h2:g'=x:=aZ hx
   exact AN.out (by omega)
  ·rcases Cz.out with h | h
   ·exact .inl (h.symm.trans hx)
   ·right
    have h':=aZ (hx.symm.trans h)
    rw[h']
    simp
    omega
  ·iterate 5 refine Fr.iK ?_ hge
   exact pF.out)
theorem JU {o:Oper}{a:Act}{w:World}{K:Act->World->Prop}{Q:Exit->Act->World->Prop}(ho:o.op=.build 116 #[])(h:K (a.put o.dst (.agg #[.string ⟨#[]⟩,.int .i64 0,.bool false,.int .i64 0,.bool false])) w):o.wp prog a w K Q:=by
 have e:((#[]:Array (Nat × Operand)).map fun(i,x)=>(i,a.eval x)).toList=[]:=by simp
 refine Go.wp_build 116 #[] ho ?_ ?_
 ·rw[e]
  kernel_rfl
 ·rw[e,show(Tryz.prog.built 116 []).getD #[]=#[.string ⟨#[]⟩,.int .i64 0,.bool false,.int .i64 0,.bool false] by kernel_rfl]
  exact h
theorem Hj (D i:Nat)(pj:Value)(cs:Array Value)(a:Option Addr)(c:Nat)(nt:ByteArray)(ao fo:Int)(ab fb:Bool)(w:World)(hD:w.heap[D]?=some (.cells cs 85 (0,0)))(hi:cs[i]?=some (.slice a 0 c)) :
 Calls prog 99 #[.pointer (some ⟨D,i,none⟩),pj,.agg #[.string nt,.int .i64 ao,.bool ab,.int .i64 fo,.bool fb]] w fun e w'=>e=.returned (.tuple #[.agg #[.string ⟨#[]⟩,.int .i64 0,.bool false,.int .i64 0,.bool false],.bool false])/\Fr [] w w':=by
 obtain⟨wb,hwb⟩:∃wb,wb=(w.alloc (.cells #[.string nt,.int .i64 ao,.bool ab,.int .i64 fo,.bool fb] 116)).alloc (.cells #[.string ⟨#[]⟩,.int .i64 0,.bool false,.int .i64 0,.bool false] 116):=⟨_,rfl⟩;have j8:=hid (show Fr [] w wb by rw[hwb];exact((Fr.refl [] w).alloc _).alloc _)
 have yF:=hid (show wb.heap[w.heap.size+1]?=some (.cells #[.string ⟨#[]⟩,.int .i64 0,.bool false,.int .i64 0,.bool false] 116 (0,0)) by
  have h:=iL (w.alloc (.cells #[.string nt,.int .i64 ao,.bool ab,.int .i64 fo,.bool fb] 116)) (.cells #[.string ⟨#[]⟩,.int .i64 0,.bool false,.int .i64 0,.bool false] 116)
  rw[<-hwb]at h;simpa using h)
 have d1:=iG (iJ hD j8.out aj) hi;have NQ:=hid hwb;rw[hwb]at d1;clear hD hi hwb;go_enter func99,ntmps99
 iterate 54 go_step
 refine JU rfl ?_;go_wp2;rw[<-NQ.out];refine fE (iX rfl _ _ (w.heap.size+1) 116 _ (0,0) _ rfl yF.out underlying116 rfl (by kernel_rfl)) rfl ?_;exact⟨rfl,j8.out⟩
theorem Hl (D:Nat)(nt mt:ByteArray)(ao fo mo mp:Int)(ab fb mb mc fnd:Bool)(w:World)(R:World->World->Prop)
 (h:∀Y,Fr [] w Y->w.heap.size+2<=Y.heap.size->Calls prog 99 #[.pointer (some ⟨D,7,none⟩),.pointer (some ⟨D,8,none⟩),.agg #[.string nt,.int .i64 ao,.bool ab,.int .i64 fo,.bool fb]] Y fun e w'=>e=.returned (.tuple #[.agg #[.string mt,.int .i64 mo,.bool mb,.int .i64 mp,.bool mc],.bool fnd])/\w'.heap[w.heap.size+1]?=Y.heap[w.heap.size+1]?/\R Y w') :
 Calls prog 60 #[.pointer (some ⟨D,7,none⟩),.agg #[.string nt,.int .i64 ao,.bool ab,.int .i64 fo,.bool fb]] w fun e w'=>e=.returned (.tuple #[.agg #[.string mt,.int .i64 mo,.bool mb,.int .i64 mp,.bool mc],.bool fnd])/\∃Y w1,Fr [] w Y/\w.heap.size+2=Y.heap.size/\R Y w1/\Fr [w.heap.size+1] w1 w':=by
 obtain⟨wb,hwb⟩:∃wb,wb=(w.alloc (.cells #[.string nt,.int .i64 ao,.bool ab,.int .i64 fo,.bool fb] 116)).alloc (.cells #[.string ⟨#[]⟩,.int .i64 0,.bool false,.int .i64 0,.bool false] 116):=⟨_,rfl⟩;have j8:=hid (show Fr [] w wb by rw[hwb];exact((Fr.refl [] w).alloc _).alloc _);have Gt:=hid (show wb.heap.size=w.heap.size+2 by rw[hwb,fD,fD]);have Nx:=hid (show wb.heap[w.heap.size]?=some (.cells #[.string nt,.int .i64 ao,.bool ab,.int .i64 fo,.bool fb] 116 (0,0)) by rw[hwb];exact iJ (iL w _) ((Fr.refl [] _).alloc _) aj)
 have yF:=hid (show wb.heap[w.heap.size+1]?=some (.cells #[.string ⟨#[]⟩,.int .i64 0,.bool false,.int .i64 0,.bool false] 116 (0,0)) by
  have h:=iL (w.alloc (.cells #[.string nt,.int .i64 ao,.bool ab,.int .i64 fo,.bool fb] 116)) (.cells #[.string ⟨#[]⟩,.int .i64 0,.bool false,.int .i64 0,.bool false] 116)
  rw[<-hwb]at h;simpa using h)
 have H99:=hid (fun(Y:World) (hf:Fr [] wb Y)=>h Y (j8.out.trans hf) (by have:=hf.size;rw[Gt.out]at this;exact this));have HK:=hid (fun(wz:World) (hf:Fr [] wb wz)=>show wz.cell? ⟨w.heap.size,0,none⟩=some (.string nt)/\wz.cell? ⟨w.heap.size,1,none⟩=some (.int .i64 ao)/\wz.cell? ⟨w.heap.size,2,none⟩=some (.bool ab)/\wz.cell? ⟨w.heap.size,3,none⟩=some (.int .i64 fo)/\wz.cell? ⟨w.heap.size,4,none⟩=some (.bool fb)from⟨iG (iJ Nx.out hf aj) (i:=0) rfl,iG (iJ Nx.out hf aj) (i:=1) rfl,iG (iJ Nx.out hf aj) (i:=2) rfl,iG (iJ Nx.out hf aj) (i:=3) rfl,iG (iJ Nx.out hf aj) (i:=4) rfl⟩);obtain⟨y0,y1,y2,y3,y4⟩:=HK.out wb (Fr.refl [] wb);clear h;go_enter func60,ntmps60;go_wp2_with fail;rw[<-hwb];clear hwb
 go_region_with (first
  | (go_at_call 99;refine(H99.out _ ?fa).mono ?_;(case fa=>exact(Fr.refl [] wb).drew);rintro e w2 ⟨rfl,hr2,hR⟩;have HRR:=hid hR;have HR2:=hid (show w2.heap[w.heap.size+1]?=some (.cells #[.string ⟨#[]⟩,.int .i64 0,.bool false,.int .i64 0,.bool false] 116 (0,0))from hr2.trans (iJ yF.out (Fr.refl [] wb).drew aj));have r0:=iG HR2.out (i:=0) (v:=.string ⟨#[]⟩) rfl;have r1:=iG HR2.out (i:=1) (v:=.int .i64 0) rfl;have r2:=iG HR2.out (i:=2) (v:=.bool false) rfl;have r3:=iG HR2.out (i:=3) (v:=.int .i64 0) rfl;have r4:=iG HR2.out (i:=4) (v:=.bool false) rfl;have q0:=iH HR2.out 0;have q1:=iH HR2.out 1;have q2:=iH HR2.out 2;have q3:=iH HR2.out 3;have q4:=iH HR2.out 4;clear hr2 hR))
 all_goals (
  go_wp2
  refine fE (iX rfl _ _ (w.heap.size+1) 116 _ (0,0) _ rfl (iI (iI (iI (iI (iI HR2.out 0 _) 1 _) 2 _) 3 _) 4 _) underlying116 rfl (by kernel_rfl)) rfl ?_
  refine⟨by simp[Act.put],_,w2,j8.out.trans (Fr.refl [] wb).drew,Gt.out.symm,HRR.out,?_⟩
  iterate 5 refine Fr.set ?_ (ak.2 rfl) _
  exact Fr.refl _ _)
theorem Es (D:Nat)(nt mt:ByteArray)(ao fo mo mp:Int)(ab fb mb mc fnd:Bool)(w:World)(R:World->World->Prop)
 (h:∀Y,Fr [] w Y->w.heap.size+2<=Y.heap.size->Calls prog 99 #[.pointer (some ⟨D,8,none⟩),.pointer (some ⟨D,7,none⟩),.agg #[.string nt,.int .i64 ao,.bool ab,.int .i64 fo,.bool fb]] Y fun e w'=>e=.returned (.tuple #[.agg #[.string mt,.int .i64 mo,.bool mb,.int .i64 mp,.bool mc],.bool fnd])/\w'.heap[w.heap.size+1]?=Y.heap[w.heap.size+1]?/\R Y w') :
 Calls prog 61 #[.pointer (some ⟨D,7,none⟩),.agg #[.string nt,.int .i64 ao,.bool ab,.int .i64 fo,.bool fb]] w fun e w'=>e=.returned (.tuple #[.agg #[.string mt,.int .i64 mo,.bool mb,.int .i64 mp,.bool mc],.bool fnd])/\∃Y w1,Fr [] w Y/\w.heap.size+2=Y.heap.size/\R Y w1/\Fr [w.heap.size+1] w1 w':=by
 obtain⟨wb,hwb⟩:∃wb,wb=(w.alloc (.cells #[.string nt,.int .i64 ao,.bool ab,.int .i64 fo,.bool fb] 116)).alloc (.cells #[.string ⟨#[]⟩,.int .i64 0,.bool false,.int .i64 0,.bool false] 116):=⟨_,rfl⟩;have j8:=hid (show Fr [] w wb by rw[hwb];exact((Fr.refl [] w).alloc _).alloc _);have Gt:=hid (show wb.heap.size=w.heap.size+2 by rw[hwb,fD,fD]);have Nx:=hid (show wb.heap[w.heap.size]?=some (.cells #[.string nt,.int .i64 ao,.bool ab,.int .i64 fo,.bool fb] 116 (0,0)) by rw[hwb];exact iJ (iL w _) ((Fr.refl [] _).alloc _) aj)
 have yF:=hid (show wb.heap[w.heap.size+1]?=some (.cells #[.string ⟨#[]⟩,.int .i64 0,.bool false,.int .i64 0,.bool false] 116 (0,0)) by
  have h:=iL (w.alloc (.cells #[.string nt,.int .i64 ao,.bool ab,.int .i64 fo,.bool fb] 116)) (.cells #[.string ⟨#[]⟩,.int .i64 0,.bool false,.int .i64 0,.bool false] 116)
  rw[<-hwb]at h;simpa using h)
 have H99:=hid (fun(Y:World) (hf:Fr [] wb Y)=>h Y (j8.out.trans hf) (by have:=hf.size;rw[Gt.out]at this;exact this));have HK:=hid (fun(wz:World) (hf:Fr [] wb wz)=>show wz.cell? ⟨w.heap.size,0,none⟩=some (.string nt)/\wz.cell? ⟨w.heap.size,1,none⟩=some (.int .i64 ao)/\wz.cell? ⟨w.heap.size,2,none⟩=some (.bool ab)/\wz.cell? ⟨w.heap.size,3,none⟩=some (.int .i64 fo)/\wz.cell? ⟨w.heap.size,4,none⟩=some (.bool fb)from⟨iG (iJ Nx.out hf aj) (i:=0) rfl,iG (iJ Nx.out hf aj) (i:=1) rfl,iG (iJ Nx.out hf aj) (i:=2) rfl,iG (iJ Nx.out hf aj) (i:=3) rfl,iG (iJ Nx.out hf aj) (i:=4) rfl⟩);obtain⟨y0,y1,y2,y3,y4⟩:=HK.out wb (Fr.refl [] wb);clear h;go_enter func61,ntmps61;go_wp2_with fail;rw[<-hwb];clear hwb
 go_region_with (first
  | (go_at_call 99;refine(H99.out _ ?fa).mono ?_;(case fa=>exact(Fr.refl [] wb).drew);rintro e w2 ⟨rfl,hr2,hR⟩;have HRR:=hid hR;have HR2:=hid (show w2.heap[w.heap.size+1]?=some (.cells #[.string ⟨#[]⟩,.int .i64 0,.bool false,.int .i64 0,.bool false] 116 (0,0))from hr2.trans (iJ yF.out (Fr.refl [] wb).drew aj));have r0:=iG HR2.out (i:=0) (v:=.string ⟨#[]⟩) rfl;have r1:=iG HR2.out (i:=1) (v:=.int .i64 0) rfl;have r2:=iG HR2.out (i:=2) (v:=.bool false) rfl;have r3:=iG HR2.out (i:=3) (v:=.int .i64 0) rfl;have r4:=iG HR2.out (i:=4) (v:=.bool false) rfl;have q0:=iH HR2.out 0;have q1:=iH HR2.out 1;have q2:=iH HR2.out 2;have q3:=iH HR2.out 3;have q4:=iH HR2.out 4;clear hr2 hR))
 all_goals (
  go_wp2
  refine fE (iX rfl _ _ (w.heap.size+1) 116 _ (0,0) _ rfl (iI (iI (iI (iI (iI HR2.out 0 _) 1 _) 2 _) 3 _) 4 _) underlying116 rfl (by kernel_rfl)) rfl ?_
  refine⟨by simp[Act.put],_,w2,j8.out.trans (Fr.refl [] wb).drew,Gt.out.symm,HRR.out,?_⟩
  iterate 5 refine Fr.set ?_ (ak.2 rfl) _
  exact Fr.refl _ _)
structure Mid (w w':World)(B D:Nat)(R:Int)(t:ByteArray)(us rs:List Mo)(y:Nat):Prop where
 x:∃vB vZ vU vR,w'.heap[D]?=some (.cells #[.int .i64 2,.int .i64 10,.int .i64 20,.int .i64 R,.string t,vB,vZ,vU,vR] 85 (0,0))/\w'.ownsRow B 116 5 vU us.length (qp us)/\w'.ownsRow B 116 5 vR rs.length (qp rs)/\(∀g,vU.ownBlock=some g->vR.ownBlock≠some g)/\∀g,(vU.ownBlock=some g\/vR.ownBlock=some g)->g<w.heap.size\/y<=g
 s:∃S,Fr S w w'/\∀k∈S,B<=k/\(k=D\/∃c f,w.heap[k]?=some (.cells c 116 f))
theorem Mid.fr {w w1 w':World}{B D y:Nat}{R:Int}{t:ByteArray}{us rs:List Mo}(h:Mid w w1 B D R t us rs y)(hf:Fr [] w1 w'):Mid w w' B D R t us rs y:=by
 obtain⟨vB,vZ,vU,vR,q1,q2,q3,q4⟩:=h.x;obtain⟨S,s1,s2⟩:=h.s;exact⟨⟨vB,vZ,vU,vR,iJ q1 hf aj,iM q2 hf,iM q3 hf,q4⟩,⟨S,s1.trans (hf.mono (fun k hk=>absurd hk aj)),s2⟩⟩
theorem Mid.set {w w1 w':World}{B D y b:Nat}{R:Int}{t:ByteArray}{us rs:List Mo}(h:Mid w w1 B D R t us rs y)(hf:Fr [b] w1 w')(hb:w.heap.size<=b)(hy:b<y)(hD:D<w.heap.size):Mid w w' B D R t us rs y:=by
 obtain⟨vB,vZ,vU,vR,q1,q2,q3,q4,q5⟩:=h.x;obtain⟨S,s1,s2⟩:=h.s;have ne:∀x,(vU.ownBlock=some x\/vR.ownBlock=some x)->x ∉ [b]:=fun x hx hm=>by
  have:=ak.1 hm;have:=q5 x hx;omega
 exact⟨⟨vB,vZ,vU,vR,iJ q1 hf (fun hm=>by have:=ak.1 hm;omega),Wr.jU q2 (fun x hx=>hf.block x (q2.lt x hx).2 (ne x (.inl hx))),Wr.jU q3 (fun x hx=>hf.block x (q3.lt x hx).2 (ne x (.inr hx))),q4,q5⟩,⟨S,ni s1 hf (.inr hb),s2⟩⟩
theorem yA (D B:Nat)(R ao fo:Int)(t0:ByteArray)(l:List Int)(ab fb:Bool)(us rs:List Mo)(y:Nat)(w w1:World)(hM:Mid w w1 B D R t0 us rs y)(hG:Gr w)(hBD:B<=D)(h9:9<B)(SM:D<w.heap.size)(hR:-9223372036854775808<=R/\R<=9223372036854775807)(hl:Vt l)(mu:∀m∈us,Vt m.l)(mr:∀m∈rs,Vt m.l)(n6:us.length+rs.length<=6) :
 Calls prog 45 #[.pointer (some ⟨D,0,none⟩),.agg #[.string (tu l),.int .i64 ao,.bool ab,.int .i64 fo,.bool fb]] w1 fun e w'=>e=.returned (.tuple #[])/\jY w' B D R l (iR (bnd (tu l) l.length) ((tu l).size:Nat) ao ab).1 (iR (bnd (tu l) l.length) ((tu l).size:Nat) ao ab).2 (iR (bnd (tu l) l.length) ((tu l).size:Nat) fo fb).1 (iR (bnd (tu l) l.length) ((tu l).size:Nat) fo fb).2 us rs w.heap.size w'.heap.size/\lM w w' B D:=by
 obtain⟨vB,vZ,vU,vR,q1,q2,q3,q4,_⟩:=hM.x;obtain⟨S,s1,s2⟩:=hM.s;have hG1:Gr w1:=hG.fr s1 (fun k hk=>by have:=(s2 k hk).1;omega);refine(Cx D l.length 2 10 20 R ao fo t0 (tu l) vB vZ vU vR ab fb w1 q1 (by omega) hG1 hl.ends hl.z (.inr (.inr rfl)) (by decide) (by decide) hR hl.cls).mono ?_;rintro e w' ⟨rfl,vB',Z,P,Bl,Bd,V,Ls,p1,p2,p3,rfl,p5,p6,p7,p8⟩;have hrs:=jW hl.ends;have hbl:(Wr.Gd (tu l) l.length (Aq (tu l) 10 20 l.length) R).length<=5000:=by
  have h1:=Wr.EQ (Wr.IP (Wr.blk (tu l) l.length) (Wr.cw (tu l) l.length (Aq (tu l) 10 20 l.length)) R (cn (tu l) l.length)) (cn (tu l) l.length) (cn (tu l) l.length) 0 (by omega);have h2:cn (tu l) l.length<=l.length:=by have:=(jA (tu l) l.length).1;unfold cn;omega
  have h3:=lV (tu l) l.length;have h4:=hl.ends.1;have h5:=hl.z;show(List.map _ _).length<=_;rw[cP];omega
 have hsz:=s1.size;have hU:∀ {v:Value} {n:Nat} {xs:List Value},w1.ownsRow B 116 5 v n xs->w'.ownsRow B 116 5 v n xs:=fun h=>Wr.jU h (fun g hg=>p8.block g (h.lt g hg).2 (fun hm=>own_ne h q1 (fun c f e=>by cases e) (by rw[<-ak.1 hm];exact hg.symm)))
 refine⟨rfl,⟨⟨vB',Z,P,Bl,V,Ls,vU,vR,_,false,0,p1,p2,p3,hU q2,hU q3,q4,iU p7 (by omega),hbl,by omega,p6,iO p2,by omega⟩,?_,?_,hl,mu,mr,n6,hR,hBD,h9,hG1.fr p8 (fun k hk=>by rw[ak.1 hk];omega),by have:=p8.size;omega,au _⟩,?_⟩
 ·exact rY hrs ao ab
 ·exact rY hrs fo fb
 ·refine lM.of (S:=D :: S) ((s1.mono (fun k hk _=>dH _ hk)).trans (p8.mono (fun k hk _=>by rw[ak.1 hk];exact bX))) (fun k hk=>?_)
  rcases bA.1 hk with h | h
  ·exact⟨by omega,.inl h⟩
  ·obtain⟨b1,b2⟩:=s2 k h
   exact⟨b1,b2.imp id .inl⟩
theorem yB {w:World}{B n x:Nat}{v:Value}{xs:List Value}(h:w.ownsRow B 116 5 v n xs)(hx:v.ownBlock=some x):B<=x/\∃c,w.heap[x]?=some (.cells c 116 (0,0)):=by
 rcases h.2 with⟨e,_⟩ | ⟨g,cap,cur,e,q1,q2,_⟩
 ·rw[e]at hx;cases hx
 ·rw[e]at hx
  cases hx;exact⟨q1,cur,q2⟩
theorem RM (B D lo hi:Nat)(R ao fo:Int)(l:List Int)(ab fb:Bool)(us rs:List Mo)(m:Mo)(w W:World)(hW:Fr [] w W)(h:jY w B D R l ao ab fo fb (us++[m]) rs lo hi) :
 Calls prog 60 #[.pointer (some ⟨D,7,none⟩),.agg #[.string (tu l),.int .i64 ao,.bool ab,.int .i64 fo,.bool fb]] W fun e w'=>e=.returned (.tuple #[.agg #[.string (tu m.l),.int .i64 m.ao,.bool m.ab,.int .i64 m.fo,.bool m.fb],.bool true])/\Mid w w' B D R (tu l) us (rs++[Mo.mk l ao ab fo fb]) W.heap.size/\∀k,w.heap.size<=k->k<W.heap.size->w'.heap[k]?=W.heap[k]?:=by
 obtain⟨vB,Z,P,Bl,V,Ls,vU,vR,L,aim,goal,q1,q2,q3,q4,q5,q6,q7,_⟩:=h.x;have hDl:=iO q1;obtain⟨k,hk⟩:∃k,k=us.length:=⟨_,rfl⟩;have hlen:(us++[m]).length=k+1:=by rw[aD,hk];rfl
 rw[hlen]at q4;obtain⟨g,cap,hv⟩:=jl (Nat.succ_pos _) q4;subst hv;have hgl:=(q4.lt g rfl).2;have h6:=h.n6;have hbd:=h.bD;have hbw:=h.bw;refine(Hl D (tu l) (tu m.l) ao fo m.ao m.fo ab fb m.ab m.fb true W (fun Y w1=>∃pQ,w1.heap[D]?=some (.cells (((zH 2 10 20 R (tu l) vB Z (.slice (some ⟨g,0,none⟩) (k+1) cap) vR).setIfInBounds 7 (.slice (some ⟨g,0,none⟩) k cap)).setIfInBounds 8 pQ) 85 (0,0))/\w1.ownsRow B 116 5 (.slice (some ⟨g,0,none⟩) k cap) k (qp us)/\w1.ownsRow B 116 5 pQ (rs.length+1) (qp (rs++[Mo.mk l ao ab fo fb]))/\pQ.ownBlock≠some g/\(∀x,pQ.ownBlock=some x->vR.ownBlock=some x\/Y.heap.size<=x)/\Fr (D :: g :: vR.ownBlock.toList) Y w1) (fun Y hf0 hlt=>?_)).mono ?_
 ·have hf:Fr [] w Y:=hW.trans hf0
  have hws:=hW.size;refine(Er D 7 8 B g cap k rs.length _ vR us rs m l ao fo ab fb Y (iJ q1 hf aj) rfl rfl (by decide) (iM q4 hf) hk.symm (iM q5 hf) rfl (fun e=>q6 g rfl e) ?_ (aK hbw hf.size)).mono ?_
  ·simp only[aD,bg,List.length_nil]at h6
   omega
  ·rintro e w1 ⟨rfl,pQ,t2,t3,t4,t5,t6,t7⟩
   refine⟨rfl,t7.block _ (by omega) (fun hm=>?_),pQ,t2,t3,t4,t5,t6,t7⟩
   rcases bA.1 hm with e1 | hm
   ·omega
   ·rcases bA.1 hm with e1 | hm
    ·omega
    ·have:=(q5.lt _ (eC.1 hm)).2
     omega
 ·rintro e w' ⟨rfl,Y,w1,hY0,hYs,⟨pQ,t2,t3,t4,t5,t6,t7⟩,hf1⟩
  have hY:Fr [] w Y:=hW.trans hY0;have hws:=hW.size;have n1:∀ {x:Nat},x<w.heap.size->x ∉ [W.heap.size+1]:=fun hx hm=>by have:=ak.1 hm;omega
  have o1:w'.ownsRow B 116 5 (.slice (some ⟨g,0,none⟩) k cap) k (qp us):=Wr.jU t3 (fun x hx=>hf1.block x (t3.lt x hx).2 (n1 (by cases hx;exact hgl)))
  have o2:w'.ownsRow B 116 5 pQ (rs.length+1) (qp (rs++[Mo.mk l ao ab fo fb])):=Wr.jU t4 (fun x hx=>hf1.block x (t4.lt x hx).2 (fun hm=>by
   have e1:=ak.1 hm
   rcases t6 x hx with h1 | h1
   ·have:=(q5.lt x h1).2
    omega
   ·omega))
  refine⟨rfl,⟨⟨vB,.pointer (some ⟨Z,0,none⟩),.slice (some ⟨g,0,none⟩) k cap,pQ,?d1,?d2,?d3,fun x hx=>by cases hx;exact t5,fun x hx=>?d4⟩,D :: g :: vR.ownBlock.toList,ni ((hY.mono (fun x hx=>absurd hx aj)).trans (t7.mono (fun x hx _=>hx))) hf1 (.inr (by omega)),fun x hx=>?_⟩,fun x h1 h2=>?last⟩
  case d1=>exact iJ t2 hf1 (n1 hDl)
  case d2=>subst hk;exact o1
  case d3=>rw[aD];exact o2
  case last =>
   rw[hf1.block x (aM h2 (aK hY0.size t7.size)) (fun hm=>by have:=ak.1 hm;omega),t7.block x (aM h2 hY0.size) (fun hm=>?_),hY0.block x h2 aj]
   rcases bA.1 hm with e1 | hm
   ·omega
   ·rcases bA.1 hm with e1 | hm
    ·omega
    ·have:=(q5.lt _ (eC.1 hm)).2
     omega
  case d4 =>
   rcases hx with h1 | h1
   ·cases h1;exact .inl hgl
   ·rcases t6 x h1 with h2 | h2
    ·exact .inl (q5.lt x h2).2
    ·exact .inr (aK hY0.size h2)
  rcases bA.1 hx with e1 | hx
  ·exact⟨by omega,.inl e1⟩
  ·rcases bA.1 hx with e1 | hx
   ·subst e1
    obtain⟨b1,c,b2⟩:=yB q4 rfl;exact⟨b1,.inr ⟨c,_,b2⟩⟩
   ·obtain⟨b1,c,b2⟩:=yB q5 (eC.1 hx)
    exact⟨b1,.inr ⟨c,_,b2⟩⟩
theorem RN (B D lo hi:Nat)(R ao fo:Int)(l:List Int)(ab fb:Bool)(us rs:List Mo)(m:Mo)(w W:World)(hW:Fr [] w W)(h:jY w B D R l ao ab fo fb us (rs++[m]) lo hi) :
 Calls prog 61 #[.pointer (some ⟨D,7,none⟩),.agg #[.string (tu l),.int .i64 ao,.bool ab,.int .i64 fo,.bool fb]] W fun e w'=>e=.returned (.tuple #[.agg #[.string (tu m.l),.int .i64 m.ao,.bool m.ab,.int .i64 m.fo,.bool m.fb],.bool true])/\Mid w w' B D R (tu l) (us++[Mo.mk l ao ab fo fb]) rs W.heap.size/\∀k,w.heap.size<=k->k<W.heap.size->w'.heap[k]?=W.heap[k]?:=by
 obtain⟨vB,Z,P,Bl,V,Ls,vU,vR,L,aim,goal,q1,q2,q3,q4,q5,q6,q7,_⟩:=h.x;have hDl:=iO q1;obtain⟨k,hk⟩:∃k,k=rs.length:=⟨_,rfl⟩;have hlen:(rs++[m]).length=k+1:=by rw[aD,hk];rfl
 rw[hlen]at q5;obtain⟨g,cap,hv⟩:=jl (Nat.succ_pos _) q5;subst hv;have hgl:=(q5.lt g rfl).2;have h6:=h.n6;have hbd:=h.bD;have hbw:=h.bw;refine(Es D (tu l) (tu m.l) ao fo m.ao m.fo ab fb m.ab m.fb true W (fun Y w1=>∃pQ,w1.heap[D]?=some (.cells (((zH 2 10 20 R (tu l) vB Z vU (.slice (some ⟨g,0,none⟩) (k+1) cap)).setIfInBounds 8 (.slice (some ⟨g,0,none⟩) k cap)).setIfInBounds 7 pQ) 85 (0,0))/\w1.ownsRow B 116 5 (.slice (some ⟨g,0,none⟩) k cap) k (qp rs)/\w1.ownsRow B 116 5 pQ (us.length+1) (qp (us++[Mo.mk l ao ab fo fb]))/\pQ.ownBlock≠some g/\(∀x,pQ.ownBlock=some x->vU.ownBlock=some x\/Y.heap.size<=x)/\Fr (D :: g :: vU.ownBlock.toList) Y w1) (fun Y hf0 hlt=>?_)).mono ?_
 ·have hf:Fr [] w Y:=hW.trans hf0
  have hws:=hW.size;refine(Er D 8 7 B g cap k us.length _ vU rs us m l ao fo ab fb Y (iJ q1 hf aj) rfl rfl (by decide) (iM q5 hf) hk.symm (iM q4 hf) rfl (fun e=>q6 g e rfl) ?_ (aK hbw hf.size)).mono ?_
  ·simp only[aD,bg,List.length_nil]at h6
   omega
  ·rintro e w1 ⟨rfl,pQ,t2,t3,t4,t5,t6,t7⟩
   refine⟨rfl,t7.block _ (by omega) (fun hm=>?_),pQ,t2,t3,t4,t5,t6,t7⟩
   rcases bA.1 hm with e1 | hm
   ·omega
   ·rcases bA.1 hm with e1 | hm
    ·omega
    ·have:=(q4.lt _ (eC.1 hm)).2
     omega
 ·rintro e w' ⟨rfl,Y,w1,hY0,hYs,⟨pQ,t2,t3,t4,t5,t6,t7⟩,hf1⟩
  have hY:Fr [] w Y:=hW.trans hY0;have hws:=hW.size;have n1:∀ {x:Nat},x<w.heap.size->x ∉ [W.heap.size+1]:=fun hx hm=>by have:=ak.1 hm;omega
  have o1:w'.ownsRow B 116 5 (.slice (some ⟨g,0,none⟩) k cap) k (qp rs):=Wr.jU t3 (fun x hx=>hf1.block x (t3.lt x hx).2 (n1 (by cases hx;exact hgl)))
  have o2:w'.ownsRow B 116 5 pQ (us.length+1) (qp (us++[Mo.mk l ao ab fo fb])):=Wr.jU t4 (fun x hx=>hf1.block x (t4.lt x hx).2 (fun hm=>by
   have e1:=ak.1 hm
   rcases t6 x hx with h1 | h1
   ·have:=(q4.lt x h1).2
    omega
   ·omega))
  refine⟨rfl,⟨⟨vB,.pointer (some ⟨Z,0,none⟩),pQ,.slice (some ⟨g,0,none⟩) k cap,?d1,?d3,?d2,fun x hx e=>by cases e;exact t5 hx,fun x hx=>?d4⟩,D :: g :: vU.ownBlock.toList,ni ((hY.mono (fun x hx=>absurd hx aj)).trans (t7.mono (fun x hx _=>hx))) hf1 (.inr (by omega)),fun x hx=>?_⟩,fun x h1 h2=>?last⟩
  case d1=>exact iJ t2 hf1 (n1 hDl)
  case d2=>subst hk;exact o1
  case d3=>rw[aD];exact o2
  case last =>
   rw[hf1.block x (aM h2 (aK hY0.size t7.size)) (fun hm=>by have:=ak.1 hm;omega),t7.block x (aM h2 hY0.size) (fun hm=>?_),hY0.block x h2 aj]
   rcases bA.1 hm with e1 | hm
   ·omega
   ·rcases bA.1 hm with e1 | hm
    ·omega
    ·have:=(q4.lt _ (eC.1 hm)).2
     omega
  case d4 =>
   rcases hx with h1 | h1
   ·rcases t6 x h1 with h2 | h2
    ·exact .inl (q4.lt x h2).2
    ·exact .inr (aK hY0.size h2)
   ·cases h1;exact .inl hgl
  rcases bA.1 hx with e1 | hx
  ·exact⟨by omega,.inl e1⟩
  ·rcases bA.1 hx with e1 | hx
   ·subst e1
    obtain⟨b1,c,b2⟩:=yB q5 rfl;exact⟨b1,.inr ⟨c,_,b2⟩⟩
   ·obtain⟨b1,c,b2⟩:=yB q4 (eC.1 hx)
    exact⟨b1,.inr ⟨c,_,b2⟩⟩
end Go.Proofs.YtnakejhohdbfdacGreatDoor.Cls.Dc

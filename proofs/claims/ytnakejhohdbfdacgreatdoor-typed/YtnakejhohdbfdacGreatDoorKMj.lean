import Derived.Test.YtnakejhohdbfdacGreatDoorKMi
import Derived.Deep.RegionLaw
import Derived.Maps.AppendAt
import Derived.Test.YtnakejhohdbfdacGreatDoorKMh
import Derived.Test.YtnakejhohdbfdacGreatDoorKMa
namespace Go.Proofs.YtnakejhohdbfdacGreatDoor
open Go.RowKit Lev
theorem info288:(Tryz.prog.info? 288).map (fun i=>(i.zero,i.size,i.bytes))=some (some (.pointer none),1,8):=by kernel_rfl
theorem step_append_at {P:Program}{ops:Array Oper}{o:Oper}{a:Act}{w:World}{K:Act→World→Prop}{Q:Exit→Act→World→Prop}{X:Prop}
 (hg:o.guard=none) (s x:Operand) (t:TypeId) (hop:o.op=Op.call { callee:=Callee.builtin Builtin.append,args:=#[s,x],argTypes:=#[t,t] })
 (base:Nat) (e:TypeId) (i:TypeInfo) (z:Value) (size bytes:Nat) (h1:P.underlying t=some (.slice e)) (h2:P.info? e=some i) (h3:i.zero=some z) (h4:i.size=size) (h5:i.bytes=bytes) (h6:z.cells.size=size) (h7:0<size)
 (v:Value) (n:Nat) (xs:List Value) (hs:a.eval s=v) (hown:w.ownsRow base e size v n xs)
 (ad:Addr) (m c:Nat) (news:List Value) (hx:a.eval x=.slice (some ad) m c) (hn:news.length=m * size) (hc:∀j u,news[j]?=some u→w.cell? (ad.add j)=some u) (h1c:∀u∈news,u.oneCell'=true)
 (b1:n+m≤maxLen) (b2:(n+m) * bytes≤140737488355328) (b3:base≤w.heap.size)
 (hK:∀v' w',w'.ownsRow base e size v' (n+m) (xs++news)→w.grownBy w' v.ownBlock→(v'.ownBlock=v.ownBlock∨v'.ownBlock=some w.heap.size)→K (a.put o.dst v') w') :
 if Region.wanted o (yielded ops a.tmps)=true then Oper.wp P o a w K Q else X:=by
 have hw:Region.wanted o (yielded ops a.tmps)=true:=by simp[Region.wanted,hg]
 rw[if_pos hw];obtain⟨v',w',hr,k2,k3,_,k5⟩:=run_append_own_at (P:=P) w base t o.type e i z size bytes h1 h2 h3 h4 h5 h6 h7 v n xs hown ad m c news hn hc h1c b1 b2 b3;unfold Oper.wp execOp;simp only[hop,resolve,invoke,builtin,Sem.run_bind,Sem.run_pure,Result.andThen_ok,List.map_toArray,List.map_cons,List.map_nil,hs,hx,hr];exact hK _ _ k2 k3 k5
def ptrs (U:Nat)(I:List Nat):List Value:=I.map (fun i=>.pointer (some ⟨U,i * 4,none⟩))
theorem ptrs_snoc (U:Nat)(I:List Nat)(i:Nat):ptrs U I++[.pointer (some ⟨U,i * 4,none⟩)]=ptrs U (I++[i]):=by simp[ptrs]
theorem ptrs_at (U:Nat)(I:List Nat)(k:Nat)(hk:k<I.length):(ptrs U I)[k]?=some (.pointer (some ⟨U,nix I k * 4,none⟩)):=by
 simp[ptrs,nix,List.getElem?_eq_getElem hk]
structure SB (w:World)(B S:Nat)(v:Value)(I:List Nat)(lv bef aft:Int)(U:Nat):Prop where
 o:w.heap[S]?=some (.cells #[v,.int .i64 lv,.int .i64 bef,.int .i64 aft] 299 (0,0))
 r:w.ownsRow B 288 1 v I.length (ptrs U I)
 le:B≤S
theorem SB.cell {w:World}{B S U:Nat}{v:Value}{I:List Nat}{lv bef aft:Int}(h:SB w B S v I lv bef aft U){i:Nat}{x:Value}(hx:(#[v,.int .i64 lv,.int .i64 bef,.int .i64 aft]:Array Value)[i]?=some x):w.cell? ⟨S,i,none⟩=some x:=by
 rw[cell_of_row w S i _ 299 (0,0) h.o];exact hx
theorem SB.froz {w:World}{B S U:Nat}{v:Value}{I:List Nat}{lv bef aft:Int}(h:SB w B S v I lv bef aft U)(i:Nat):w.frozen? ⟨S,i,none⟩=false:=frozen_of_row w S i _ 299 h.o
theorem SB.lt {w:World}{B S U:Nat}{v:Value}{I:List Nat}{lv bef aft:Int}(h:SB w B S v I lv bef aft U):S<w.heap.size:=(Array.getElem?_eq_some_iff.1 h.o).1
theorem apart_struct {w:World}{S B e t size n g:Nat}{cs:Array Value}{v:Value}{xs:List Value}(h1:w.heap[S]?=some (.cells cs t (0,0)))(ho:w.ownsRow B e size v n xs)(ht:t≠e)(hv:v.ownBlock=some g):S≠g:=fun ee=>by
 rcases ho.2 with⟨h0,_⟩ | ⟨g',c',cur,h0,_,hg,_⟩
 ·subst h0;cases hv
 ·subst h0
  cases hv;rw[ee,hg]at h1;cases h1;exact ht rfl
theorem SB.fr {T:List Nat}{w w':World}{B S U:Nat}{v:Value}{I:List Nat}{lv bef aft:Int}(h:SB w B S v I lv bef aft U)(hf:Fr T w w')(hS:S ∉ T)(hv:∀g,v.ownBlock=some g→g ∉ T):SB w' B S v I lv bef aft U :=
 ⟨(hf.block S h.lt hS).trans h.o,owns_fr h.r hf hv,h.le⟩
theorem SB.fr0 {w w':World}{B S U:Nat}{v:Value}{I:List Nat}{lv bef aft:Int}(h:SB w B S v I lv bef aft U)(hf:Fr [] w w'):SB w' B S v I lv bef aft U:=h.fr hf List.not_mem_nil (fun _ _=>List.not_mem_nil)
theorem SB.push {w w1 w2:World}{B S U g' cap' n i:Nat}{v:Value}{I:List Nat}{lv bef aft:Int}(h:SB w B S v I lv bef aft U)(hn:n=I.length)(hf:Fr [] w w1)(ho:w2.ownsRow B 288 1 (.slice (some ⟨g',0,none⟩) (n+1) cap') (n+1) (ptrs U I++[.pointer (some ⟨U,i * 4,none⟩)]))(hg:w1.grownBy w2 v.ownBlock) :
 SB (w2.setCell ⟨S,0,none⟩ (.slice (some ⟨g',0,none⟩) (n+1) cap')) B S (.slice (some ⟨g',0,none⟩) (n+1) cap') (I++[i]) lv bef aft U∧w2.heap[S]?=some (.cells #[v,.int .i64 lv,.int .i64 bef,.int .i64 aft] 299 (0,0)):=by
 have h1:=h.fr0 hf;have hS:w2.heap[S]?=some (.cells #[v,.int .i64 lv,.int .i64 bef,.int .i64 aft] 299 (0,0)):=(hg.block S h1.lt (fun e=>apart_struct h1.o h1.r (by decide) e.symm rfl)).trans h1.o;have hne:S≠g':=apart_struct hS ho (by decide) rfl;have hl:(I++[i]).length=n+1:=by rw[List.length_append,hn];rfl
 refine⟨⟨?_,?_,h.le⟩,hS⟩
 ·rw[heap_setCell_same w2 S 0 _ 299 _ hS];rfl
 ·rw[hl,←ptrs_snoc]
  exact owns_fr ho (fr_set1 w2 S 0 _) (fun y hy hm=>by cases hy;exact hne (List.mem_singleton.1 hm).symm)
theorem Fr.grownT {T:List Nat}{w w1 w':World}{row:Option Nat}(h:Fr T w w1)(hg:w1.grownBy w' row)(hr:∀k,row=some k→k∈T∨w.heap.size≤k):Fr T w w' :=
 ⟨hg.os.trans h.os,hg.tape.trans h.tape,hg.output.trans h.output,Nat.le_trans h.size hg.size,fun k hk hs=>(hg.block k (Nat.lt_of_lt_of_le hk h.size) (fun e=>by
  rcases hr k e.symm with h1 | h1
  ·exact hs h1
  ·omega)).trans (h.block k hk hs)⟩
theorem take_snoc (r:List Nat)(k:Nat)(hk:k<r.length):r.take (k+1)=r.take k++[nix r k]:=by
 rw[List.take_succ_eq_append_getElem hk];simp[nix,List.getElem?_eq_getElem hk]
def lies (w:World)(v v':Value):Prop:=v'.ownBlock=v.ownBlock∨∃k,v'.ownBlock=some k∧w.heap.size≤k
theorem lies.step {w w1:World}{v v1 v2:Value}(h:lies w v v1)(k:v2.ownBlock=v1.ownBlock∨v2.ownBlock=some w1.heap.size)(hs:w.heap.size≤w1.heap.size):lies w v v2:=by
 rcases k with k | k
 ·rcases h with h | ⟨j,h,hj⟩
  ·exact .inl (k.trans h)
  ·exact .inr ⟨j,k.trans h,hj⟩
 ·exact .inr ⟨_,k,hs⟩
theorem ptr_one (a:Addr):∀u∈[Value.pointer (some a)],u.oneCell'=true:=by
 intro u hu;simp at hu;subst hu;rfl
set_option linter.unusedSimpArgs false in
set_option maxRecDepth 10000 in
set_option maxHeartbeats 4000000 in
theorem join_any (q:UH)(P cU:Nat)(plv:Int)(w:World)(B S:Nat)(v:Value)(I r:List Nat)(lv bef aft lv':Int)(g l c:Nat)
 (hq:QS w q P cU plv) (hs:SB w B S v I lv bef aft q.U) (hr:rowN w g l r) (hl:l=r.length) (hlt:∀k,k<l→nix r k<q.n) (hsm:I.length+l≤1000000) (_hn:q.n≤1000000) (hB:B≤w.heap.size) (hP:P<B) (hg:g<B) :
 Calls Tryz.prog 176 #[.pointer (some ⟨P,0,none⟩),.pointer (some ⟨S,0,none⟩),.agg #[.int .i64 lv',.slice (some ⟨g,0,none⟩) l c]] w fun e w'=>e=.returned (.tuple #[])∧(∃v',SB w' B S v' (I++r) lv bef aft q.U∧lies w v v')∧Fr (S :: v.ownBlock.toList) w w':=by
 obtain⟨i0,hi,hz0,hz1,hz2⟩:=info_parts info288;have HQ:=hid hq;have HS:=hid hs;have HR:=hid hr;have HL:=hid hl;have HLT:=hid hlt;have hSw:=hs.lt;have hBS:=hs.le;have hgw:g<w.heap.size:=by omega
 have hPw:P<w.heap.size:=by omega
 have hQB:∀(T:List Nat),(∀k∈T,B≤k)→P ∉ T∧g ∉ T:=fun T hT=>⟨fun hm=>by have:=hT _ hm;omega,fun hm=>by have:=hT _ hm;omega⟩
 have hTB:∀k∈S :: v.ownBlock.toList,B≤k:=by
  intro k hk
  rcases List.mem_cons.1 hk with rfl | hk
  ·exact hBS
  ·exact(hs.r.lt k (by simpa using hk)).1
 have HT:=hid (hQB _ hTB);obtain⟨T,hT⟩:∃T,T=S :: v.ownBlock.toList:=⟨_,rfl⟩;rw[←hT]at HT;rw[←hT];have HTT:=hid hT;clear hq hs hr hl hlt hQB hTB hT;go_enter Tryz.func176,Tryz.ntmps176;go_wp2;go_loopw [11] (fun a wr=>∃(k:Nat) (vk:Value),a=.int .i64 k∧k≤l∧Hid (SB wr B S vk (I++r.take k) lv bef aft q.U)∧Hid (lies w v vk)∧Hid (Fr T w wr)) (fun a _=>l - (intOf a).toNat)
 case atStart=>exact⟨0,v,rfl,Nat.zero_le _,hid (by rw[List.take_zero,List.append_nil];exact HS.out.fr0 ((Fr.refl [] w).alloc _)),hid (.inl rfl),hid ((Fr.refl T w).alloc _)⟩
 case round =>
  obtain⟨k,vk,rfl,hkl,HK,HLI,HF⟩:=hrel;by_cases hlt:k<l
  ·have p0:=HF.out.cell (HR.out k hlt) HT.out.2
   have p1:=(HQ.out.fr HF.out HT.out.1).c0;have hix:=HLT.out k hlt;have HTS:=hid (take_snoc r k (by have:=HL.out;omega));generalize nix r k=x at *;have hixI:(x:Int)<(q.n:Int):=by omega
   have hkI:(k:Int)<(l:Int):=by omega
   have hlen:(I++r.take k).length=I.length+k:=by rw[List.length_append,List.length_take,←HL.out];omega
   generalize hI2:I++r.take k=I2 at *;have HI2:=hid hI2;obtain⟨n,hn'⟩:∃n,n=I2.length:=⟨_,rfl⟩;have HN:=hid hn';have hnb:n≤1000000:=by omega
   have hnb2:n+1≤1000000:=by omega
   have hr':=HK.out.r;rw[←hn']at hr';obtain⟨a1,c1,hv1⟩:=owns_slice hr';subst hv1;have HRR:=hid hr';have c0:wr.cell? ⟨S,0,none⟩=some (.slice a1 n c1):=HK.out.cell rfl;have f0:=HK.out.froz 0;have hSr:=HK.out.lt;have hBr:B≤wr.heap.size:=by have:=HF.out.size;omega
   have hUr:True:=trivial;clear hI2 hn' hr' hlen hlt;go_wp2;go_region_law (refine step_append_at rfl (.tmp 19) (.tmp 26) 297 rfl B 288 i0 _ 1 8 Tryz.underlying297 hi hz0 hz1 hz2 rfl (by decide) (.slice a1 n c1) n (ptrs q.U I2) ?q1 ?q2 ⟨wr.heap.size,0,none⟩ 1 1 [.pointer (some ⟨q.U,x * 4,none⟩)] ?q3 rfl ?q4 (ptr_one _) (by unfold maxLen;omega) (by omega) ?q5 ?_;(case q1=>simp[Act.eval,Act.put]);(case q2=>exact owns_fr0 HRR.out (((Fr.refl [] wr).drew).alloc _));(case q3=>simp[Act.eval,Act.put]);(case q4=>exact news_at _ _ _ _ (by simp));(case q5=>simp;omega);intro v' w' hown hgrow hat;obtain⟨g',c',hv'⟩:=owns_shape (by omega) hown;subst hv';have HX1:=hid hown;have HX2:=hid hgrow;have HX4:=hid hat;have HX3:=hid (HK.out.push (i:=x) HN.out (((Fr.refl [] wr).drew).alloc _) hown hgrow);have g1:w'.cell? ⟨S,0,none⟩=some (.slice a1 n c1):=(by rw[cell_of_row w' S 0 _ 299 (0,0) HX3.out.2];rfl);have g2:=frozen_of_row w' S 0 _ 299 HX3.out.2;clear hown hgrow hat)
   all_goals (
    go_wp2
    go_roundw)
   all_goals first
    | (refine⟨k+1,_,by go_num,by omega,hid (by rw[HTS.out,←List.append_assoc,HI2.out];exact HX3.out.1.fr0 (frz _ _ _ rfl rfl rfl rfl)),hid (HLI.out.step (w1:=wr.drew.alloc _) HX4.out (by have:=HF.out.size;simp;omega)),hid ?_⟩
       refine(Fr.trans (Fr.set (Fr.grownT (HF.out.drew.alloc _) HX2.out (fun j hj=>?_)) (by rw[HTT.out];simp) _) (frz _ _ _ rfl rfl rfl rfl))
       rcases HLI.out with h5 | ⟨j',h5,h6⟩
       ·rw[h5]at hj;exact .inl (by rw[HTT.out];simp[hj])
       ·rw[h5]at hj;cases hj;exact .inr h6)
    | (simp[intOf];omega)
  ·have hke:k=l:=by omega
   have hkI:¬(k:Int)<(l:Int):=by omega
   have HK2:=hid (show SB wr B S vk (I++r) lv bef aft q.U by have h:=HK.out;rw[hke,HL.out,List.take_length]at h;exact h);clear hke HK;go_wp2;go_end0;exact⟨rfl,⟨vk,HK2.out,HLI.out⟩,HF.out⟩
end Go.Proofs.YtnakejhohdbfdacGreatDoor
namespace Go.Proofs.YtnakejhohdbfdacGreatDoor
open Go.RowKit Lev Go.Maps
theorem aw_from (K:List Int)(rs:List (List Nat)):∀k p s,(dvTo K rs k).aw p=some s→∃t,t<k∧leads K (run rs t)=some p∧ow K rs t=s
 | 0,p,s,h=>by cases h
 | k+1,p,s,h=>by
   rw[dvTo,dvStep]at h;cases hx:(dvTo K rs k).aw (firstN (run rs k))with
   | some b =>
     rw[hx]at h;dsimp only[dvAw]at h;by_cases hl:leads K (run rs k)=some p
     ·rw[if_pos hl]at h;cases h;exact⟨k,Nat.lt_succ_self _,hl,by rw[ow,hx]⟩
     ·rw[if_neg hl]at h;obtain⟨t,h1,h2⟩:=aw_from K rs k p s h;exact⟨t,by omega,h2⟩
   | none =>
     rw[hx]at h;dsimp only[dvAw]at h;by_cases hl:leads K (run rs k)=some p
     ·rw[if_pos hl]at h;cases h;exact⟨k,Nat.lt_succ_self _,hl,by rw[ow,hx]⟩
     ·rw[if_neg hl]at h;obtain⟨t,h1,h2⟩:=aw_from K rs k p s h;exact⟨t,by omega,h2⟩
theorem lastN_append (y:List Nat){r:List Nat}(h:r≠[]):lastN (y++r)=lastN r:=by
 have hl:=List.length_pos_iff.2 h;unfold lastN;rw[List.length_append,List.getElem?_append_right (by omega),show y.length+r.length - 1 - y.length=r.length - 1 by omega]
theorem all_level {K L:List Int}{rs:List (List Nat)}(hr:RunInv K L K.length rs)(ho:RunsOk K rs)
 (hf:∀a b:List Nat,lastN a<K.length→follows K a b=true→nth L (firstN b)=nth L (lastN a)):∀k,k≤rs.length→∀(s:Nat) y,(dvTo K rs k).all[s]?=some y→y≠[]∧∀x∈y,nth L x=nth L (firstN y)
 | 0,_,s,y,h=>by simp[dvTo]at h
 | k+1,hk,s,y,h=>by
   have ih:=all_level hr ho hf k (by omega);have hne:=ho.ne k (by omega);rw[dvTo,dvStep]at h;cases hx:(dvTo K rs k).aw (firstN (run rs k))with
   | some a =>
     rw[hx]at h;dsimp only at h;have ha:=aw_lt K rs k _ _ hx;by_cases e:s=a
     ·subst e
      rw[List.getElem?_set_self ha]at h;cases h;obtain⟨t,ht,hl,how⟩:=aw_from K rs k _ _ hx;obtain⟨y,hy,hm⟩:=(mem_all K rs k s (lastN (run rs t))).2 ⟨t,ht,how,lastN_mem (ho.ne t (by omega))⟩;rw[hy];obtain⟨h1,h2⟩:=ih s y hy;refine⟨by simp[h1],fun x hx'=>?_⟩;show nth L x=nth L (firstN (y++run rs k));rw[firstN_append h1]
      rcases List.mem_append.1 hx' with h3 | h3
      ·exact h2 x h3
      ·rw[hr.lev _ (run_mem (by omega)) x h3,hf _ _ (ho.mem (by omega) (lastN_mem (ho.ne t (by omega)))).1 ((leads_follows K _ _).1 hl)]
       exact h2 _ hm
     ·rw[List.getElem?_set_ne (fun e'=>e e'.symm)]at h
      exact ih s y h
   | none =>
     rw[hx]at h;dsimp only at h;by_cases e:s<(dvTo K rs k).all.length
     ·rw[List.getElem?_append_left e]at h;exact ih s y h
     ·rw[List.getElem?_append_right (by omega)]at h
      have:s - (dvTo K rs k).all.length=0:=by
       rcases Nat.eq_zero_or_pos (s - (dvTo K rs k).all.length)with h0 | h0
       ·exact h0
       ·rw[List.getElem?_eq_none (by simp;omega)]at h;cases h
      rw[this]at h;cases h;exact⟨hne,fun x hx'=>hr.lev _ (run_mem (by omega)) x hx'⟩
theorem ahd_eq {K L:List Int}{base:Int}{rs:List (List Nat)}{ls:List Int}(hr:RunInv K L K.length rs)(hv:lvOk L rs ls){k:Nat}(hk:k<rs.length):lvOf ls rs.length base ((k:Int) - 1)=lvAhead K L base (firstN (run rs k)):=by
 rw[lvAhead_run hr hk,lvOf];by_cases h0:k=0
 ·rw[if_pos (by omega),if_pos h0]
 ·rw[if_neg (by omega),if_neg h0,show((k:Int) - 1).toNat=k - 1 by omega,hv (k - 1) (by omega)]
theorem beh_eq {K L:List Int}{base:Int}{rs:List (List Nat)}{ls:List Int}(hr:RunInv K L K.length rs)(hv:lvOk L rs ls){k:Nat}(hk:k<rs.length):lvOf ls rs.length base ((k:Int)+1)=lvBehind K L base K.length (lastN (run rs k)+1):=by
 rw[lvBehind_run hr hk,lvOf];by_cases h0:k+1<rs.length
 ·rw[if_neg (by omega),if_pos h0,show((k:Int)+1).toNat=k+1 by omega,hv (k+1) h0]
 ·rw[if_pos (by omega),if_neg h0]
structure SD where
 S:Nat
 v:Value
 I:List Nat
 lv:Int
 bef:Int
 aft:Int
structure AL (wr:World)(B U:Nat)(v:Value)(gs:List SD):Prop where
 own:wr.ownsRow B 263 1 v gs.length (gs.map (fun d=>.pointer (some ⟨d.S,0,none⟩)))
 sb:∀(s:Nat) d,gs[s]?=some d→SB wr B d.S d.v d.I d.lv d.bef d.aft U
 apS:∀(s s':Nat) d d',gs[s]?=some d→gs[s']?=some d'→d.S=d'.S→s=s'
 apV:∀(s s':Nat) d d' g,gs[s]?=some d→gs[s']?=some d'→d.v.ownBlock=some g→d'.v.ownBlock=some g→s=s'
theorem AL.fr0 {wr w':World}{B U:Nat}{v:Value}{gs:List SD}(h:AL wr B U v gs)(hf:Fr [] wr w'):AL w' B U v gs :=
 ⟨owns_fr0 h.own hf,fun s d hd=>(h.sb s d hd).fr0 hf,h.apS,h.apV⟩
theorem AL.start (w:World)(B U:Nat):AL w B U (.slice none 0 0) [] :=
 ⟨World.ownsRow_nil _ _ _ _,fun s d h=>by simp at h,fun s s' d d' h=>by simp at h,fun s s' d d' g h=>by simp at h⟩
theorem AL.cell {wr:World}{B U g n c:Nat}{gs:List SD}(h:AL wr B U (.slice (some ⟨g,0,none⟩) n c) gs){a:Nat}{d:SD}(hd:gs[a]?=some d)(hn:n=gs.length):wr.cell? ⟨g,a,none⟩=some (.pointer (some ⟨d.S,0,none⟩)):=by
 have ho:=h.own;rw[←hn]at ho;have ha:a<gs.length:=(List.getElem?_eq_some_iff.1 hd).1;rw[ho.cellAt a (by omega),List.getElem?_map,hd];rfl
theorem AL.new {wr w2 w3:World}{B U S:Nat}{v v':Value}{gs:List SD}{lv bef:Int}(h:AL wr B U v gs)(hf:Fr [] wr w2)(hS:w2.heap[S]?=some (.cells #[.slice none 0 0,.int .i64 lv,.int .i64 bef,.int .i64 0] 299 (0,0)))(hB:B≤S)(hSw:wr.heap.size≤S)
 (ho:w3.ownsRow B 263 1 v' (gs.length+1) (gs.map (fun d=>.pointer (some ⟨d.S,0,none⟩))++[.pointer (some ⟨S,0,none⟩)])) (hg:w2.grownBy w3 v.ownBlock):AL w3 B U v' (gs++[⟨S,.slice none 0 0,[],lv,bef,0⟩]):=by
 have h2:=h.fr0 hf;have split:∀(s:Nat) d,(gs++[(⟨S,.slice none 0 0,[],lv,bef,0⟩:SD)])[s]?=some d→(gs[s]?=some d∧s<gs.length)∨(s=gs.length∧d=⟨S,.slice none 0 0,[],lv,bef,0⟩):=fun s d hd=>by
  rcases Nat.lt_or_ge s gs.length with hs | hs
  ·rw[List.getElem?_append_left hs]at hd;exact .inl ⟨hd,hs⟩
  ·rw[List.getElem?_append_right hs]at hd
   have hlt:=(List.getElem?_eq_some_iff.1 hd).1;simp at hlt;have h0:s - gs.length=0:=by omega
   rw[h0]at hd;cases hd;exact .inr ⟨by omega,rfl⟩
 have hst:w3.heap[S]?=some (.cells #[.slice none 0 0,.int .i64 lv,.int .i64 bef,.int .i64 0] 299 (0,0)):=(hg.block S (Array.getElem?_eq_some_iff.1 hS).1 (fun e=>apart_struct hS h2.own (by decide) e.symm rfl)).trans hS;refine⟨by rw[List.length_append,List.map_append];exact ho,fun s d hd=>?_,fun s s' d d' hd hd' e=>?_,fun s s' d d' g hd hd' e e'=>?_⟩
 ·rcases split s d hd with⟨h3,_⟩ | ⟨_,rfl⟩
  ·have h4:=h2.sb s d h3
   exact⟨(hg.block d.S h4.lt (fun e=>apart_struct h4.o h2.own (by decide) e.symm rfl)).trans h4.o,owns_grown h4.r hg (fun g hg' e=>owns_apart h4.r h2.own (by decide) hg' e.symm rfl),h4.le⟩
  ·exact⟨hst,World.ownsRow_nil _ _ _ _,hB⟩
 ·rcases split s d hd with⟨h3,h3'⟩ | ⟨h3,rfl⟩
  ·rcases split s' d' hd' with⟨h4,_⟩ | ⟨_,rfl⟩
   ·exact h.apS s s' d d' h3 h4 e
   ·have:=(h.sb s d h3).lt;dsimp only at e;omega
  ·rcases split s' d' hd' with⟨h4,_⟩ | ⟨h4,_⟩
   ·have:=(h.sb s' d' h4).lt;dsimp only at e;omega
   ·omega
 ·rcases split s d hd with⟨h3,h3'⟩ | ⟨h3,rfl⟩
  ·rcases split s' d' hd' with⟨h4,_⟩ | ⟨_,rfl⟩
   ·exact h.apV s s' d d' g h3 h4 e e'
   ·cases e'
  ·cases e
theorem set_split {gs:List SD}{a s:Nat}{d d1 x:SD}(ha:gs[a]?=some d1)(h:(gs.set a d)[s]?=some x):(s=a∧x=d)∨(s≠a∧gs[s]?=some x):=by
 by_cases e:s=a
 ·subst e
  rw[List.getElem?_set_self (List.getElem?_eq_some_iff.1 ha).1]at h;cases h;exact .inl ⟨rfl,rfl⟩
 ·rw[List.getElem?_set_ne (fun e'=>e e'.symm)]at h
  exact .inr ⟨e,h⟩
theorem map_set_S {gs:List SD}{a:Nat}{d d1:SD}(ha:gs[a]?=some d1)(hS:d.S=d1.S):(gs.set a d).map (fun d=>Value.pointer (some ⟨d.S,0,none⟩))=gs.map (fun d=>Value.pointer (some ⟨d.S,0,none⟩)):=by
 rw[List.map_set,hS];refine List.ext_getElem? (fun i=>?_);by_cases e:i=a
 ·subst e
  have hlt:=(List.getElem?_eq_some_iff.1 ha).1;rw[List.getElem?_set_self (by simpa using hlt),List.getElem?_map,ha];rfl
 ·rw[List.getElem?_set_ne (fun e'=>e e'.symm)]
theorem AL.turn {wr w':World}{B U a:Nat}{v:Value}{gs:List SD}{d d1:SD}(h:AL wr B U v gs)(ha:gs[a]?=some d1)(hS:d.S=d1.S)(hf:Fr (d1.S :: d1.v.ownBlock.toList) wr w')(hb:SB w' B d.S d.v d.I d.lv d.bef d.aft U)(hl:lies wr d1.v d.v):AL w' B U v (gs.set a d):=by
 have h1:=h.sb a d1 ha;have hT:∀k∈d1.S :: d1.v.ownBlock.toList,k=d1.S∨d1.v.ownBlock=some k:=fun k hk=>by
  rcases List.mem_cons.1 hk with rfl | hk
  ·exact .inl rfl
  ·exact .inr (by simpa using hk)
 refine⟨?_,fun s x hx=>?_,fun s s' x x' hx hx' e=>?_,fun s s' x x' g hx hx' e e'=>?_⟩
 ·rw[List.length_set,map_set_S ha hS]
  refine owns_fr h.own hf (fun g hg hm=>?_)
  rcases hT g hm with e | e
  ·exact apart_struct h1.o h.own (by decide) hg e.symm
  ·exact owns_apart h.own h1.r (by decide) hg e rfl
 ·rcases set_split ha hx with⟨_,rfl⟩ | ⟨hne,h3⟩
  ·exact hb
  ·have h4:=h.sb s x h3
   refine h4.fr hf (fun hm=>?_) (fun g hg hm=>?_)
   ·rcases hT _ hm with e | e
    ·exact hne (h.apS s a x d1 h3 ha e)
    ·exact apart_struct h4.o h1.r (by decide) e rfl
   ·rcases hT g hm with e | e
    ·exact apart_struct h1.o h4.r (by decide) hg e.symm
    ·exact hne (h.apV s a x d1 g h3 ha hg e)
 ·rcases set_split ha hx with⟨rfl,rfl⟩ | ⟨hne,h3⟩
  ·rcases set_split ha hx' with⟨rfl,_⟩ | ⟨hne',h4⟩
   ·rfl
   ·exact h.apS s s' d1 x' ha h4 (by rw[←hS];exact e)
  ·rcases set_split ha hx' with⟨rfl,rfl⟩ | ⟨hne',h4⟩
   ·exact h.apS s s' x d1 h3 ha (by rw[←hS];exact e)
   ·exact h.apS s s' x x' h3 h4 e
 ·have key:∀(t:Nat) y g,t≠a→gs[t]?=some y→y.v.ownBlock=some g→d.v.ownBlock=some g→False:=fun t y g ht hy hyv hdv=>by
   rcases hl with h5 | ⟨k,h5,h6⟩
   ·rw[h5]at hdv;exact ht (h.apV t a y d1 g hy ha hyv hdv)
   ·rw[h5]at hdv
    cases hdv;have:=((h.sb t y hy).r.lt g hyv).2;omega
  rcases set_split ha hx with⟨rfl,rfl⟩ | ⟨hne,h3⟩
  ·rcases set_split ha hx' with⟨rfl,_⟩ | ⟨hne',h4⟩
   ·rfl
   ·exact(key s' x' g hne' h4 e' e).elim
  ·rcases set_split ha hx' with⟨rfl,rfl⟩ | ⟨hne',h4⟩
   ·exact(key s x g hne h3 e e').elim
   ·exact h.apV s s' x x' g h3 h4 e e'
end Go.Proofs.YtnakejhohdbfdacGreatDoor
namespace Go.Proofs.YtnakejhohdbfdacGreatDoor
open Go.RowKit Lev Go.Maps
theorem info263:(Tryz.prog.info? 263).map (fun i=>(i.zero,i.size,i.bytes))=some (some (.pointer none),1,8):=by kernel_rfl
theorem step_call {P:Program}{ops:Array Oper}{o:Oper}{a:Act}{w:World}{K:Act→World→Prop}{Q:Exit→Act→World→Prop}{X:Prop}
 (hg:o.guard=none) (f:FuncId) (xs:Array Operand) (ts:Array TypeId) (hop:o.op=Op.call { callee:=Callee.value (Operand.func f),args:=xs,argTypes:=ts })
 (hent:∀args w,(callFunc f args).run P w=.ok (.enter f args) w) (vals:Array Value) (hv:xs.map a.eval=vals) (R:Value→World→Prop)
 (hc:Calls P f vals w fun e w'=>∃v,e=.returned v∧R v w') (hK:∀v w',R v w'→K (a.put o.dst v) w') :
 if Region.wanted o (yielded ops a.tmps)=true then Oper.wp P o a w K Q else X:=by
 have hw:Region.wanted o (yielded ops a.tmps)=true:=by simp[Region.wanted,hg]
 rw[if_pos hw];have he:(execOp a.eval o).run P w=.ok (.enter f vals) w:=by
  simp[execOp,hop,resolve,Deferred.ofValue,invoke,Act.eval,hv,hent]
 unfold Oper.wp;rw[he,Oper.upon_enter];refine hc.mono ?_;rintro e w' ⟨v,rfl,hr⟩;exact hK v w' hr
theorem step_call_same {P:Program}{ops:Array Oper}{o:Oper}{a:Act}{w:World}{K:Act→World→Prop}{Q:Exit→Act→World→Prop}{X:Prop}
 (hg:o.guard=none) (f:FuncId) (xs:Array Operand) (ts:Array TypeId) (hop:o.op=Op.call { callee:=Callee.value (Operand.func f),args:=xs,argTypes:=ts })
 (hent:∀args w,(callFunc f args).run P w=.ok (.enter f args) w) (vals:Array Value) (hv:xs.map a.eval=vals) (y:Value)
 (hc:Calls P f vals w fun e w'=>e=.returned y∧w'=w) (hK:K (a.put o.dst y) w) :
 if Region.wanted o (yielded ops a.tmps)=true then Oper.wp P o a w K Q else X :=
 step_call hg f xs ts hop hent vals hv (fun v w'=>v=y∧w'=w) (hc.mono (fun _ _ h=>⟨y,h.1,rfl,h.2⟩)) (fun _ _ h=>by rw[h.1,h.2];exact hK)
theorem map_apart {w:World}{b n B e size m:Nat}{D:DataW Unit}{v:Value}{xs:List Value}(h:w.ownsMap Tryz.prog 3 (plainElem Tryz.prog 3) b n D)(ho:w.ownsRow B e size v m xs):some b≠v.ownBlock:=fun ee=>by
 obtain⟨es,clock,hb,_⟩:=h
 rcases ho.2 with⟨h0,_⟩ | ⟨g,c,cur,h0,_,hg,_⟩
 ·subst h0;cases ee
 ·subst h0;cases ee;rw[hb]at hg;cases hg
theorem map_apart_struct {w:World}{b n S t:Nat}{D:DataW Unit}{cs:Array Value}(h:w.ownsMap Tryz.prog 3 (plainElem Tryz.prog 3) b n D)(hs:w.heap[S]?=some (.cells cs t (0,0))):b≠S:=fun ee=>by
 obtain⟨es,clock,hb,_⟩:=h;rw[ee,hs]at hb;cases hb
theorem owns_map_fr {T:List Nat}{w w':World}{b n:Nat}{D:DataW Unit}(h:w.ownsMap Tryz.prog 3 (plainElem Tryz.prog 3) b n D)(hf:Fr T w w')(hb:b ∉ T):w'.ownsMap Tryz.prog 3 (plainElem Tryz.prog 3) b n D:=by
 obtain⟨es,clock,hh,r⟩:=h;exact⟨es,clock,(hf.block b (Array.getElem?_eq_some_iff.1 hh).1 hb).trans hh,r⟩
theorem AL.made {wB w1 w3:World}{U n g' c' k mbk z S t1:Nat}{v:Value}{gs:List SD}{lv bef:Int}{o:Obj}{D:DataW Unit}{cz:Array Value}(h:AL w1 wB.heap.size U v gs)(hn:n=gs.length)
 (ho:w3.ownsRow wB.heap.size 263 1 (.slice (some ⟨g',0,none⟩) (n+1) c') (n+1) (gs.map (fun d=>.pointer (some ⟨d.S,0,none⟩))++[.pointer (some ⟨S,0,none⟩)]))
 (hg:((w1.drew.alloc (.cells #[.slice none 0 0,.int .i64 lv,.int .i64 bef,.int .i64 0] 299)).alloc o).grownBy w3 v.ownBlock) (hS:S=w1.heap.size) (hf:Fr [] wB w1)
 (hm:w1.ownsMap Tryz.prog 3 (plainElem Tryz.prog 3) mbk k D) (hz:w1.heap[z]?=some (.cells cz t1 (0,0))) (ht:t1≠263) :
 AL w3 wB.heap.size U (.slice (some ⟨g',0,none⟩) (n+1) c') (gs++[⟨S,.slice none 0 0,[],lv,bef,0⟩])∧Fr [] wB w3∧w3.ownsMap Tryz.prog 3 (plainElem Tryz.prog 3) mbk k D∧w3.heap[z]?=some (.cells cz t1 (0,0)):=by
 subst hS;subst hn;have hf2:Fr [] w1 ((w1.drew.alloc (.cells #[.slice none 0 0,.int .i64 lv,.int .i64 bef,.int .i64 0] 299)).alloc o):=(((Fr.refl [] w1).drew).alloc _).alloc _;have hst:((w1.drew.alloc (.cells #[.slice none 0 0,.int .i64 lv,.int .i64 bef,.int .i64 0] 299)).alloc o).heap[w1.heap.size]?=some (.cells #[.slice none 0 0,.int .i64 lv,.int .i64 bef,.int .i64 0] 299 (0,0)) :=
  (Below.heap_alloc _ _ _ (by simp)).trans (heap_alloc_new w1.drew _)
 have h2:=h.fr0 hf2;refine⟨h.new hf2 hst hf.size (Nat.le_refl _) ho hg,(hf.trans hf2).grown hg (fun k e=>(h2.own.lt k e).1),(owns_map_fr0 hm hf2).kept hg (map_apart (owns_map_fr0 hm hf2) h2.own),?_⟩;have hz2:=(hf2.block z (Array.getElem?_eq_some_iff.1 hz).1 List.not_mem_nil).trans hz;exact(hg.block z (Array.getElem?_eq_some_iff.1 hz2).1 (fun e=>apart_struct hz2 h2.own ht e.symm rfl)).trans hz2
theorem SB.setAft {w:World}{B S U:Nat}{v:Value}{I:List Nat}{lv bef aft:Int}(h:SB w B S v I lv bef aft U)(x:Int):SB (w.setCell ⟨S,3,none⟩ (.int .i64 x)) B S v I lv bef x U :=
 ⟨by rw[heap_setCell_same w S 3 _ 299 _ h.o];rfl,owns_fr h.r (fr_set1 w S 3 _) (fun y hy hm=>apart_struct h.o h.r (by decide) hy (List.mem_singleton.1 hm).symm),h.le⟩
theorem Fr.late {T T':List Nat}{w w1 w2:World}(h:Fr T w w1)(k:Fr T' w1 w2)(hT:∀b∈T',w.heap.size≤b):Fr T w w2 :=
 ⟨k.os.trans h.os,k.tape.trans h.tape,k.output.trans h.output,Nat.le_trans h.size k.size,fun b hb hs=>(k.block b (Nat.lt_of_lt_of_le hb h.size) (fun hm=>by have:=hT b hm;omega)).trans (h.block b hb hs)⟩
theorem AL.joined {wB wc w':World}{U a k mbk z t1 S:Nat}{v v1 v':Value}{gs:List SD}{I1 I':List Nat}{lv1 bef1 aft1 aft':Int}{D:DataW Unit}{cz:Array Value}(h:AL wc wB.heap.size U v gs)(ha:gs[a]?=some ⟨S,v1,I1,lv1,bef1,aft1⟩)(hF:Fr [] wB wc)
 (hm:wc.ownsMap Tryz.prog 3 (plainElem Tryz.prog 3) mbk k D) (hz:wc.heap[z]?=some (.cells cz t1 (0,0))) (ht:t1≠299∧t1≠288) (hb:SB w' wB.heap.size S v' I' lv1 bef1 aft' U) (hl:lies wc v1 v') (hf:Fr (S :: v1.ownBlock.toList) wc w') :
 AL w' wB.heap.size U v (gs.set a ⟨S,v',I',lv1,bef1,aft'⟩)∧w'.ownsMap Tryz.prog 3 (plainElem Tryz.prog 3) mbk k D∧w'.heap[z]?=some (.cells cz t1 (0,0))∧Fr [] wB w':=by
 have h1:=h.sb a _ ha;dsimp only at h1;have hT:∀b∈S :: v1.ownBlock.toList,b=S∨v1.ownBlock=some b:=fun b hb'=>by
  rcases List.mem_cons.1 hb' with rfl | h2
  ·exact .inl rfl
  ·exact .inr (by simpa using h2)
 refine⟨h.turn (d:=⟨S,v',I',lv1,bef1,aft'⟩) ha rfl hf hb hl,owns_map_fr hm hf (fun hmm=>?_),(hf.block z (Array.getElem?_eq_some_iff.1 hz).1 (fun hmm=>?_)).trans hz,hF.late hf (fun b hmm=>?_)⟩
 ·rcases hT _ hmm with e | e
  ·exact map_apart_struct hm h1.o e
  ·exact map_apart hm h1.r e.symm
 ·rcases hT _ hmm with e | e
  ·rw[e,h1.o]at hz;cases hz;exact ht.1 rfl
  ·exact apart_struct hz h1.r ht.2 e rfl
 ·rcases hT _ hmm with e | e
  ·rw[e];exact h1.le
  ·exact(h1.r.lt b e).1
theorem AL.behind {wB wc w1:World}{U a k mbk z t1 S:Nat}{v v1:Value}{gs:List SD}{I1:List Nat}{lv1 bef1 aft1:Int}{D:DataW Unit}{cz:Array Value}(h:AL wc wB.heap.size U v gs)(ha:gs[a]?=some ⟨S,v1,I1,lv1,bef1,aft1⟩)(hF:Fr [] wB wc)(hf:Fr [] wc w1)
 (hm:wc.ownsMap Tryz.prog 3 (plainElem Tryz.prog 3) mbk k D) (hz:wc.heap[z]?=some (.cells cz t1 (0,0))) (ht:t1≠299∧t1≠288) (x:Int) :
 AL (w1.setCell ⟨S,3,none⟩ (.int .i64 x)) wB.heap.size U v (gs.set a ⟨S,v1,I1,lv1,bef1,x⟩)∧(w1.setCell ⟨S,3,none⟩ (.int .i64 x)).ownsMap Tryz.prog 3 (plainElem Tryz.prog 3) mbk k D∧(w1.setCell ⟨S,3,none⟩ (.int .i64 x)).heap[z]?=some (.cells cz t1 (0,0))∧Fr [] wB (w1.setCell ⟨S,3,none⟩ (.int .i64 x)) :=
 (h.fr0 hf).joined ha (hF.trans hf) (owns_map_fr0 hm hf) ((hf.block z (Array.getElem?_eq_some_iff.1 hz).1 List.not_mem_nil).trans hz) ht (((h.sb a _ ha).fr0 hf).setAft x) (.inl rfl) ((Fr.refl _ _).set List.mem_cons_self _)
theorem AL.mapped {w w':World}{B U mbk k:Nat}{v:Value}{gs:List SD}{D:DataW Unit}(h:AL w B U v gs)(hm:w.ownsMap Tryz.prog 3 (plainElem Tryz.prog 3) mbk k D)(hg:w.grownBy w' (some mbk)):AL w' B U v gs:=by
 have hf:=Fr.of_grown hg;refine⟨owns_fr h.own hf (fun g hg' hm'=>map_apart hm h.own (by rw[hg',List.mem_singleton.1 hm'])),fun s d hd=>?_,h.apS,h.apV⟩;have h1:=h.sb s d hd;exact h1.fr hf (fun hm'=>map_apart_struct hm h1.o (List.mem_singleton.1 hm').symm) (fun g hg' hm'=>map_apart hm h1.r (by rw[hg',List.mem_singleton.1 hm']))
theorem aw_step (K:List Int)(rs:List (List Nat))(k:Nat):(dvTo K rs (k+1)).aw=dvAw K (run rs k) (ow K rs k) (dvTo K rs k).aw:=by
 rw[dvTo,dvStep,ow];cases (dvTo K rs k).aw (firstN (run rs k)) <;> rfl
theorem aw_none {K:List Int}{rs:List (List Nat)}{k:Nat}(h:leads K (run rs k)=none):(dvTo K rs (k+1)).aw=(dvTo K rs k).aw:=by
 rw[aw_step]
 funext p
 rw[dvAw,if_neg (by rw[h];intro e;cases e)]
theorem aw_some {K:List Int}{rs:List (List Nat)}{k p:Nat}(h:leads K (run rs k)=some p):(dvTo K rs (k+1)).aw=fun i=>if i=p then some (ow K rs k)else(dvTo K rs k).aw i:=by
 rw[aw_step]
 funext i
 rw[dvAw,h];by_cases e:i=p
 ·subst e;rw[if_pos rfl,if_pos rfl]
 ·rw[if_neg (fun h'=>e (Option.some.inj h').symm),if_neg e]
theorem leads_lt {K:List Int}{r:List Nat}{p:Nat}(h:leads K r=some p):p<K.length:=by
 rw[leads]at h;split at h
 ·exact mate_lt _ _ _ h
 ·cases h
def gsOk (K L:List Int)(base:Int)(gs:List SD)(all:List (List Nat)):Prop:=gs.map (·.I)=all∧∀x∈gs,x.lv=nth L (firstN x.I)∧x.bef=(seqOf K L base x.I).bef∧x.aft=(seqOf K L base x.I).aft
theorem gs_at {K L:List Int}{base:Int}{gs:List SD}{all:List (List Nat)}(h:gsOk K L base gs all){a:Nat}{d:SD}(hd:gs[a]?=some d):all[a]?=some d.I:=by
 rw[←h.1,List.getElem?_map,hd];rfl
theorem gs_len {K L:List Int}{base:Int}{gs:List SD}{all:List (List Nat)}(h:gsOk K L base gs all):gs.length=all.length:=by rw[←h.1,List.length_map]
theorem gsOk.old {K L:List Int}{base:Int}{gs:List SD}{rs:List (List Nat)}{ls:List Int}{k a:Nat}{d:SD}(h:gsOk K L base gs (dvTo K rs k).all)(hk:k<rs.length)(hr:RunInv K L K.length rs)(ho:RunsOk K rs)
 (hlv:∀k,k≤rs.length→∀(s:Nat) y,(dvTo K rs k).all[s]?=some y→y≠[]∧∀x∈y,nth L x=nth L (firstN y)) (hv:lvOk L rs ls) (hx:(dvTo K rs k).aw (firstN (run rs k))=some a) (hd:gs[a]?=some d) (v':Value) :
 gsOk K L base (gs.set a ⟨d.S,v',d.I++run rs k,d.lv,d.bef,way (max (nth ls k) (if ini (nth K (lastN (run rs k)))then base else lvOf ls rs.length base ((k:Int)+1)))⟩) (dvTo K rs (k+1)).all:=by
 have ha:=gs_at h hd;have hall:(dvTo K rs (k+1)).all=(dvTo K rs k).all.set a (d.I++run rs k):=by
  rw[dvTo,dvStep,hx];dsimp only;rw[ha];rfl
 have hlen:a<(dvTo K rs k).all.length:=(List.getElem?_eq_some_iff.1 ha).1;obtain⟨hne,_⟩:=hlv k (by omega) a d.I ha;obtain⟨_,hl2⟩:=hlv (k+1) (by omega) a (d.I++run rs k) (by rw[hall,List.getElem?_set_self hlen]);have hrn:=ho.ne k hk;have hd':=h.2 d (List.mem_of_getElem? hd);refine⟨by rw[hall,List.map_set,h.1],fun x hx'=>?_⟩
 rcases List.mem_or_eq_of_mem_set hx' with h1 | rfl
 ·exact h.2 x h1
 ·refine⟨?_,?_,?_⟩
  ·dsimp only;rw[firstN_append hne];exact hd'.1
  ·dsimp only[seqOf];rw[firstN_append hne];exact hd'.2.1
  ·dsimp only[seqOf]
   rw[lastN_append _ hrn,beh_eq hr hv hk,hv k hk,hl2 (firstN (run rs k)) (List.mem_append_right _ (firstN_mem hrn))]
theorem gsOk.new {K L:List Int}{base:Int}{gs:List SD}{rs:List (List Nat)}{ls:List Int}{k:Nat}(h:gsOk K L base gs (dvTo K rs k).all)(hk:k<rs.length)(hr:RunInv K L K.length rs)(hv:lvOk L rs ls)(hx:(dvTo K rs k).aw (firstN (run rs k))=none)(S:Nat)(v':Value) :
 gsOk K L base (gs++[⟨S,v',run rs k,nth ls k,way (max (nth ls k) (lvOf ls rs.length base ((k:Int) - 1))),way (max (nth ls k) (if ini (nth K (lastN (run rs k)))then base else lvOf ls rs.length base ((k:Int)+1)))⟩]) (dvTo K rs (k+1)).all:=by
 have hall:(dvTo K rs (k+1)).all=(dvTo K rs k).all++[run rs k]:=by
  rw[dvTo,dvStep,hx]
 refine⟨by rw[hall,List.map_append,h.1];rfl,fun x hx'=>?_⟩
 rcases List.mem_append.1 hx' with h1 | h1
 ·exact h.2 x h1
 ·have:=List.mem_singleton.1 h1
  subst this;refine⟨hv k hk,?_,?_⟩
  ·dsimp only[seqOf];rw[ahd_eq hr hv hk,hv k hk]
  ·dsimp only[seqOf];rw[beh_eq hr hv hk,hv k hk]
theorem take_flat {rs:List (List Nat)}{k:Nat}(hk:k<rs.length):(rs.take (k+1)).flatten.length=(rs.take k).flatten.length+(run rs k).length:=by
 rw[List.take_succ_eq_append_getElem hk,List.flatten_append,List.length_append,run_get hk];simp
theorem all_short {K:List Int}{rs:List (List Nat)}:∀k,k≤rs.length→∀(s:Nat) y,(dvTo K rs k).all[s]?=some y→y.length≤(rs.take k).flatten.length
 | 0,_,s,y,h=>by simp[dvTo]at h
 | k+1,hk,s,y,h=>by
   have ih:=all_short (K:=K) (rs:=rs) k (by omega);have ht:=take_flat (rs:=rs) (k:=k) (by omega);rw[dvTo,dvStep]at h;cases hx:(dvTo K rs k).aw (firstN (run rs k))with
   | some a =>
     rw[hx]at h;dsimp only at h;have ha:=aw_lt K rs k _ _ hx;by_cases e:s=a
     ·subst e
      rw[List.getElem?_set_self ha]at h;cases h;have h5:=ih s _ (List.getElem?_eq_getElem ha);rw[List.getElem?_eq_getElem ha,List.length_append];simp only[Option.getD_some];omega
     ·rw[List.getElem?_set_ne (fun e'=>e e'.symm)]at h
      have:=ih s y h;omega
   | none =>
     rw[hx]at h;dsimp only at h;by_cases e:s<(dvTo K rs k).all.length
     ·rw[List.getElem?_append_left e]at h;have:=ih s y h;omega
     ·rw[List.getElem?_append_right (by omega)]at h
      have hlt:=(List.getElem?_eq_some_iff.1 h).1;simp at hlt;have h0:s - (dvTo K rs k).all.length=0:=by omega
      rw[h0]at h;cases h;omega
theorem all_count (K:List Int)(rs:List (List Nat)):∀k,(dvTo K rs k).all.length≤k
 | 0=>Nat.le_refl _
 | k+1=>by
   have ih:=all_count K rs k;rw[dvTo,dvStep];cases hx:(dvTo K rs k).aw (firstN (run rs k))with
   | some a=>dsimp only;rw[List.length_set];omega
   | none=>dsimp only;rw[List.length_append];simp;omega
theorem flat_le {K L:List Int}{rs:List (List Nat)}(hr:RunInv K L K.length rs){k:Nat}:(rs.take k).flatten.length≤K.length:=by
 have h1:(rs.take k).flatten.length≤rs.flatten.length:=by
  have:=congrArg List.length (congrArg List.flatten (List.take_append_drop k rs));rw[List.flatten_append,List.length_append]at this;omega
 have h2:rs.flatten.length≤K.length:=by
  rw[hr.flat,ng];exact Nat.le_trans (List.length_filter_le _ _) (by simp)
 omega
theorem RP.row {W wr:World}{v:Value}{rs:List (List Nat)}{ls:List Int}{hs:List Value}{B:Nat}(h:RP W wr v rs ls hs B)(hne:∀j,j<rs.length→run rs j≠[]){j:Nat}(hj:j<rs.length):∃g c,hs[j]?=some (.slice (some ⟨g,0,none⟩) (run rs j).length c)∧g<wr.heap.size∧wr.ownsRow W.heap.size 3 1 (.slice (some ⟨g,0,none⟩) (run rs j).length c) (run rs j).length (intsN (run rs j)):=by
 rcases Nat.lt_or_ge (j+1) rs.length with h1 | h1
 ·obtain⟨g,c,a1,a2,a3⟩:=h.old j h1
  exact⟨g,c,a1,(owns_at a3).2,a3⟩
 ·obtain⟨x,a1,a2⟩:=h.last j (by omega)
  obtain⟨g,c,rfl⟩:=owns_shape (List.length_pos_iff.2 (hne j hj)) a2;exact⟨g,c,a1,(owns_at a2).2,owns_low a2 h.b0.1⟩
end Go.Proofs.YtnakejhohdbfdacGreatDoor

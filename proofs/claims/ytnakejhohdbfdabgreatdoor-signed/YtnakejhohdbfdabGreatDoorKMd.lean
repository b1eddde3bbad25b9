import Derived.Test.YtnakejhohdbfdabGreatDoorRows
import Derived.Test.YtnakejhohdbfdabGreatDoorKMa
import Derived.WalkKit
import Derived.WalkSpells
import Derived.WalkSmall
import Derived.Lib.OthersKept
import Derived.RegionTactic
import Derived.Deep.QuietTactic
import Derived.BigQuiet
import Derived.Laws.AppendOwnNone
import Derived.OwnWalk
import Derived.Lib.Builder
import Derived.Deep.RegionWith
import Derived.Deep.CutRange
namespace Go.Proofs.YtnakejhohdbfdabGreatDoor
open Go.RowKit Lev
theorem hid {p:Prop}(h:p):Hid p:=h
theorem retB {a b:Bool}(h:a=b):(Ending.returned (.bool a))=.returned (.bool b):=by rw[h]
theorem retI {a b:Int}{k:IntKind}(h:a=b):(Ending.returned (.int k a))=.returned (.int k b):=by rw[h]
abbrev ints64 (l:List Int):List Value:=l.map (Value.int .i64)
def rowAt (w:World)(g n:Nat)(l:List Int):Prop:=∀i,i<n→w.cell? ⟨g,i,none⟩=some (.int .i64 (nth l i))
def mateI (o:Option Nat):Int:=match o with | none=>-1 | some m=>m
theorem mateL_ge:∀(c:List Int) (p:Nat) (n:Int) (m:Nat),mateL c p n=some m→p≤m
 | [],_,_,_,h=>by cases h
 | x :: xs,p,n,m,h=>by
   rw[mateL]at h;by_cases h0:n+dn x=0
   ·rw[if_pos h0]at h;cases h;exact Nat.le_refl _
   ·rw[if_neg h0]at h;have:=mateL_ge xs (p+1) _ m h;omega
theorem mate_ge (c:List Int)(i m:Nat)(h:mate c i=some m):i≤m:=mateL_ge _ _ _ _ h
theorem mateL_lt:∀(c:List Int) (p:Nat) (n:Int) (m:Nat),mateL c p n=some m→m<p+c.length
 | [],_,_,_,h=>by cases h
 | x :: xs,p,n,m,h=>by
   rw[mateL]at h;by_cases h0:n+dn x=0
   ·rw[if_pos h0]at h;cases h;simp
   ·rw[if_neg h0]at h;have:=mateL_lt xs (p+1) _ m h;simp;omega
theorem mate_lt (c:List Int)(i m:Nat)(h:mate c i=some m):m<c.length:=by
 have h1:=mateL_lt _ _ _ _ h;have h2:=mate_ge c i m h;by_cases hi:i≤c.length
 ·rw[List.length_drop]at h1;omega
 ·rw[mate,List.drop_eq_nil_of_le (by omega)]at h;cases h
theorem strong_from (c:List Int)(i tt:Nat)(h:i<tt):strong c i tt =
 if nth c i=0 then false else if nth c i=1∨nth c i=2 then true
 else if ini (nth c i)then(match mate c i with | none=>false | some m=>if tt≤m then false else strong c (m+1) tt)
 else strong c (i+1) tt:=by
 have key:∀f g i,tt - i≤f→tt - i≤g→strongA c tt f i=strongA c tt g i:=by
  intro f
  induction f with
  | zero =>
    intro g i hf hg;cases g with
    | zero=>rfl
    | succ g=>rw[strongA,strongA,if_pos (by omega)]
  | succ f ih =>
    intro g i hf hg;cases g with
    | zero=>rw[strongA,strongA,if_pos (by omega)]
    | succ g =>
      rw[strongA,strongA];by_cases h1:tt≤i
      ·rw[if_pos h1,if_pos h1]
      ·rw[if_neg h1,if_neg h1]
       have h2:∀m,i≤m→strongA c tt f (m+1)=strongA c tt g (m+1):=fun m hm=>ih g (m+1) (by omega) (by omega)
       have h3:∀m,mate c i=some m→i≤m:=fun m hm=>mate_ge c i m hm
       rw[h2 i (Nat.le_refl _)];cases hm:mate c i with
       | none=>rfl
       | some m=>simp only[h2 m (h3 m hm)]
 unfold strong;obtain⟨d,hd⟩:∃d,tt - i=d+1:=⟨tt - i - 1,by omega⟩;rw[hd,strongA,if_neg (by omega)];have h3:∀m,mate c i=some m→i≤m:=fun m hm=>mate_ge c i m hm
 rw[key d (tt - (i+1)) (i+1) (by omega) (by omega)];cases hm:mate c i with
 | none=>rfl
 | some m=>simp only[key d (tt - (m+1)) (m+1) (by have:=h3 m hm;omega) (Nat.le_refl _)]
end Go.Proofs.YtnakejhohdbfdabGreatDoor
namespace Go.Proofs.YtnakejhohdbfdabGreatDoor
open Go.RowKit Lev
structure Fr (S:List Nat)(w w':World):Prop where
 os:w'.os=w.os
 tape:w'.tape=w.tape
 output:w'.output=w.output
 size:w.heap.size≤w'.heap.size
 block:∀k,k<w.heap.size→k ∉ S→w'.heap[k]?=w.heap[k]?
theorem Fr.refl (S:List Nat)(w:World):Fr S w w:=⟨rfl,rfl,rfl,Nat.le_refl _,fun _ _ _=>rfl⟩
theorem Fr.trans {S:List Nat}{w w' w'':World}(h:Fr S w w')(k:Fr S w' w''):Fr S w w'' :=
 ⟨k.os.trans h.os,k.tape.trans h.tape,k.output.trans h.output,Nat.le_trans h.size k.size,fun b hb hs=>(k.block b (Nat.lt_of_lt_of_le hb h.size) hs).trans (h.block b hb hs)⟩
theorem Fr.mono {S T:List Nat}{w w':World}(h:Fr S w w')(hs:∀k,k∈S→k<w.heap.size→k∈T):Fr T w w' :=
 ⟨h.os,h.tape,h.output,h.size,fun k hk hn=>h.block k hk (fun hm=>hn (hs k hm hk))⟩
theorem Fr.of_below {S:List Nat}{w w':World}(h:Below w.heap.size w w'):Fr S w w':=⟨h.os,h.tape,h.output,h.size,fun k hk _=>h.block k hk⟩
theorem Fr.of_grown {w w':World}{b:Nat}(h:w.grownBy w' (some b)):Fr [b] w w':=⟨h.os,h.tape,h.output,h.size,fun k hk hn=>h.block k hk (fun e=>hn (by cases e;simp))⟩
theorem Fr.of_grown_none {w w':World}(h:w.grownBy w' none):Fr [] w w':=⟨h.os,h.tape,h.output,h.size,fun k hk _=>h.block k hk (fun e=>by cases e)⟩
theorem Fr.below {S:List Nat}{w w':World}{B:Nat}(h:Fr S w w')(hB:B≤w.heap.size)(hs:∀k,k∈S→B≤k):Below B w w' :=
 ⟨h.os,h.tape,h.output,h.size,fun k hk=>h.block k (Nat.lt_of_lt_of_le hk hB) (fun hm=>absurd (hs k hm) (by omega))⟩
theorem Fr.alloc {S:List Nat}{w w':World}(h:Fr S w w')(o:Obj):Fr S w (w'.alloc o) :=
 h.trans (Fr.of_below ((Below.refl _ w').alloc (Nat.le_refl _) o))
theorem Fr.set {S:List Nat}{w w':World}(h:Fr S w w'){b i:Nat}(hb:b∈S)(v:Value):Fr S w (w'.setCell ⟨b,i,none⟩ v):=by
 refine h.trans ?_;exact⟨rfl,rfl,rfl,by simp,fun k _ hn=>Below.heap_setCell _ _ _ _ (fun e=>hn (by rw[e];exact hb))⟩
theorem Fr.drewN {S:List Nat}{w w':World}(h:Fr S w w')(n:Nat):Fr S w (w'.drewN n):=⟨h.os,h.tape,h.output,h.size,h.block⟩
theorem Fr.drew {S:List Nat}{w w':World}(h:Fr S w w'):Fr S w w'.drew:=⟨h.os,h.tape,h.output,h.size,h.block⟩
theorem Fr.cell {S:List Nat}{w w':World}(h:Fr S w w'){b i:Nat}{v:Value}(hc:w.cell? ⟨b,i,none⟩=some v)(hb:b ∉ S):w'.cell? ⟨b,i,none⟩=some v :=
 (World.cell?_of_block (a:=⟨b,i,none⟩) (h.block b (World.block_lt_of_cell? _ _ hc) hb)).trans hc
theorem Fr.froz {S:List Nat}{w w':World}(h:Fr S w w'){b i:Nat}{v:Value}(hc:w.cell? ⟨b,i,none⟩=some v)(hb:b ∉ S)(hf:w.frozen? ⟨b,i,none⟩=false):w'.frozen? ⟨b,i,none⟩=false :=
 (World.frozen?_of_block (a:=⟨b,i,none⟩) (h.block b (World.block_lt_of_cell? _ _ hc) hb)).trans hf
def rowB (w:World)(g n:Nat)(l:List Bool):Prop:=∀i,i<n→w.cell? ⟨g,i,none⟩=some (.bool (l[i]?.getD false))
def rowN (w:World)(g n:Nat)(I:List Nat):Prop:=∀i,i<n→w.cell? ⟨g,i,none⟩=some (.int .i64 (nix I i:Nat))
def rowR (w:World)(g n:Nat)(R:List Int):Prop:=∀i,i<n→w.cell? ⟨g,i * 3,none⟩=some (.int .i32 (nth R i))
def soft (w:World)(g n:Nat):Prop:=∀i,i<n→w.frozen? ⟨g,i,none⟩=false
theorem rowAt.fr {S:List Nat}{w w':World}{g n:Nat}{l:List Int}(h:rowAt w g n l)(hf:Fr S w w')(hg:g ∉ S):rowAt w' g n l:=fun i hi=>hf.cell (h i hi) hg
theorem rowB.fr {S:List Nat}{w w':World}{g n:Nat}{l:List Bool}(h:rowB w g n l)(hf:Fr S w w')(hg:g ∉ S):rowB w' g n l:=fun i hi=>hf.cell (h i hi) hg
theorem rowN.fr {S:List Nat}{w w':World}{g n:Nat}{l:List Nat}(h:rowN w g n l)(hf:Fr S w w')(hg:g ∉ S):rowN w' g n l:=fun i hi=>hf.cell (h i hi) hg
theorem rowR.fr {S:List Nat}{w w':World}{g n:Nat}{l:List Int}(h:rowR w g n l)(hf:Fr S w w')(hg:g ∉ S):rowR w' g n l:=fun i hi=>hf.cell (h i hi) hg
theorem soft.fr {S:List Nat}{w w':World}{g n:Nat}{l:List Int}(h:soft w g n)(hr:rowAt w g n l)(hf:Fr S w w')(hg:g ∉ S):soft w' g n:=fun i hi=>hf.froz (hr i hi) hg (h i hi)
theorem soft.frB {S:List Nat}{w w':World}{g n:Nat}{l:List Bool}(h:soft w g n)(hr:rowB w g n l)(hf:Fr S w w')(hg:g ∉ S):soft w' g n:=fun i hi=>hf.froz (hr i hi) hg (h i hi)
theorem nth_set (l:List Int)(i:Nat)(v:Int)(j:Nat)(hi:i<l.length):nth (l.set i v) j=if j=i then v else nth l j:=by
 unfold nth;by_cases h:j=i
 ·subst h;rw[if_pos rfl,List.getElem?_set_self hi];rfl
 ·rw[if_neg h,List.getElem?_set_ne (fun e=>h e.symm)]
theorem rowAt.set {w:World}{g n:Nat}{l:List Int}(h:rowAt w g n l){i:Nat}(hi:i<n)(hl:l.length=n)(v:Int):rowAt (w.setCell ⟨g,i,none⟩ (.int .i64 v)) g n (l.set i v):=by
 intro j hj;rw[nth_set l i v j (by omega)];by_cases e:j=i
 ·subst e;rw[if_pos rfl,World.cell?_setCell_same _ _ _ (h j hj)]
 ·rw[if_neg e,World.cell?_setCell_other _ _ _ _ (fun x=>e (by cases x;rfl))];exact h j hj
theorem rowB.set {w:World}{g n:Nat}{l:List Bool}(h:rowB w g n l){i:Nat}(hi:i<n)(hl:l.length=n)(v:Bool):rowB (w.setCell ⟨g,i,none⟩ (.bool v)) g n (l.set i v):=by
 intro j hj;by_cases e:j=i
 ·subst e;rw[List.getElem?_set_self (by omega),World.cell?_setCell_same _ _ _ (h j hj)];rfl
 ·rw[List.getElem?_set_ne (fun x=>e x.symm),World.cell?_setCell_other _ _ _ _ (fun x=>e (by cases x;rfl))];exact h j hj
theorem soft.set {w:World}{g n:Nat}(h:soft w g n)(a:Addr)(v:Value):soft (w.setCell a v) g n:=by
 intro i hi;rw[World.frozen?_setCell];exact h i hi
theorem fr_set1 (w:World)(b i:Nat)(v:Value):Fr [b] w (w.setCell ⟨b,i,none⟩ v):=(Fr.refl [b] w).set (by simp) v
structure PH where
 p:Nat
 bR:Nat
 bF:Nat
 bC:Nat
 bL:Nat
 bM:Nat
 bG:Nat
 cR:Nat
 cF:Nat
 cC:Nat
 cL:Nat
 cM:Nat
 cG:Nat
 n:Nat
 R:List Int
 K:List Int
 M:List Int
 base:Int
structure PS (w:World)(h:PH)(C L:List Int)(G:List Bool):Prop where
 c0:w.cell? ⟨h.p,0,none⟩=some (.slice (some ⟨h.bR,0,none⟩) h.n h.cR)
 c1:w.cell? ⟨h.p,1,none⟩=some (.slice (some ⟨h.bF,0,none⟩) h.n h.cF)
 c2:w.cell? ⟨h.p,2,none⟩=some (.slice (some ⟨h.bC,0,none⟩) h.n h.cC)
 c3:w.cell? ⟨h.p,3,none⟩=some (.slice (some ⟨h.bL,0,none⟩) h.n h.cL)
 c4:w.cell? ⟨h.p,4,none⟩=some (.slice (some ⟨h.bM,0,none⟩) h.n h.cM)
 c5:w.cell? ⟨h.p,5,none⟩=some (.slice (some ⟨h.bG,0,none⟩) h.n h.cG)
 c6:w.cell? ⟨h.p,6,none⟩=some (.int .i64 h.base)
 rR:rowR w h.bR h.n h.R
 rF:rowAt w h.bF h.n h.K
 rM:rowAt w h.bM h.n h.M
 rC:rowAt w h.bC h.n C
 rL:rowAt w h.bL h.n L
 rG:rowB w h.bG h.n G
 sC:soft w h.bC h.n
 sL:soft w h.bL h.n
 sG:soft w h.bG h.n
 lC:C.length=h.n
 lL:L.length=h.n
 lG:G.length=h.n
 neC:h.bC≠h.p∧h.bC≠h.bR∧h.bC≠h.bF∧h.bC≠h.bM
 neL:h.bL≠h.p∧h.bL≠h.bR∧h.bL≠h.bF∧h.bL≠h.bM
 neG:h.bG≠h.p∧h.bG≠h.bR∧h.bG≠h.bF∧h.bG≠h.bM
 neX:h.bC≠h.bL∧h.bC≠h.bG∧h.bL≠h.bG
theorem PS.fr {S:List Nat}{w w':World}{h:PH}{C L:List Int}{G:List Bool}(s:PS w h C L G)(hf:Fr S w w')
 (hs:h.p ∉ S∧h.bR ∉ S∧h.bF ∉ S∧h.bM ∉ S∧h.bC ∉ S∧h.bL ∉ S∧h.bG ∉ S):PS w' h C L G :=
 ⟨hf.cell s.c0 hs.1,hf.cell s.c1 hs.1,hf.cell s.c2 hs.1,hf.cell s.c3 hs.1,hf.cell s.c4 hs.1,hf.cell s.c5 hs.1,hf.cell s.c6 hs.1,
  s.rR.fr hf hs.2.1,s.rF.fr hf hs.2.2.1,s.rM.fr hf hs.2.2.2.1,s.rC.fr hf hs.2.2.2.2.1,s.rL.fr hf hs.2.2.2.2.2.1,s.rG.fr hf hs.2.2.2.2.2.2,
  s.sC.fr s.rC hf hs.2.2.2.2.1,s.sL.fr s.rL hf hs.2.2.2.2.2.1,s.sG.frB s.rG hf hs.2.2.2.2.2.2,s.lC,s.lL,s.lG,s.neC,s.neL,s.neG,s.neX⟩
theorem PS.fr0 {w w':World}{h:PH}{C L:List Int}{G:List Bool}(s:PS w h C L G)(hf:Fr [] w w'):PS w' h C L G:=s.fr hf (by simp)
theorem PS.alloc {w:World}{h:PH}{C L:List Int}{G:List Bool}(s:PS w h C L G)(o:Obj):PS (w.alloc o) h C L G:=s.fr0 ((Fr.refl [] w).alloc o)
theorem PS.setC {w:World}{h:PH}{C L:List Int}{G:List Bool}(s:PS w h C L G){i:Nat}(hi:i<h.n)(v:Int):PS (w.setCell ⟨h.bC,i,none⟩ (.int .i64 v)) h (C.set i v) L G:=by
 have hf:=fr_set1 w h.bC i (.int .i64 v);obtain⟨n1,n2,n3,n4⟩:=s.neC;obtain⟨n5,n6,n7⟩:=s.neX;have z:∀ {k:Nat},h.bC≠k→k ∉ [h.bC]:=fun hk hm=>hk (List.mem_singleton.1 hm).symm
 exact⟨hf.cell s.c0 (z n1),hf.cell s.c1 (z n1),hf.cell s.c2 (z n1),hf.cell s.c3 (z n1),hf.cell s.c4 (z n1),hf.cell s.c5 (z n1),hf.cell s.c6 (z n1),
  s.rR.fr hf (z n2),s.rF.fr hf (z n3),s.rM.fr hf (z n4),s.rC.set hi s.lC v,s.rL.fr hf (z n5),s.rG.fr hf (z n6),
  s.sC.set _ _,s.sL.set _ _,s.sG.set _ _,by rw[List.length_set];exact s.lC,s.lL,s.lG,s.neC,s.neL,s.neG,s.neX⟩
theorem PS.setL {w:World}{h:PH}{C L:List Int}{G:List Bool}(s:PS w h C L G){i:Nat}(hi:i<h.n)(v:Int):PS (w.setCell ⟨h.bL,i,none⟩ (.int .i64 v)) h C (L.set i v) G:=by
 have hf:=fr_set1 w h.bL i (.int .i64 v);obtain⟨n1,n2,n3,n4⟩:=s.neL;obtain⟨n5,n6,n7⟩:=s.neX;have z:∀ {k:Nat},h.bL≠k→k ∉ [h.bL]:=fun hk hm=>hk (List.mem_singleton.1 hm).symm
 exact⟨hf.cell s.c0 (z n1),hf.cell s.c1 (z n1),hf.cell s.c2 (z n1),hf.cell s.c3 (z n1),hf.cell s.c4 (z n1),hf.cell s.c5 (z n1),hf.cell s.c6 (z n1),
  s.rR.fr hf (z n2),s.rF.fr hf (z n3),s.rM.fr hf (z n4),s.rC.fr hf (z n5.symm),s.rL.set hi s.lL v,s.rG.fr hf (z n7),
  s.sC.set _ _,s.sL.set _ _,s.sG.set _ _,s.lC,by rw[List.length_set];exact s.lL,s.lG,s.neC,s.neL,s.neG,s.neX⟩
theorem PS.setG {w:World}{h:PH}{C L:List Int}{G:List Bool}(s:PS w h C L G){i:Nat}(hi:i<h.n)(v:Bool):PS (w.setCell ⟨h.bG,i,none⟩ (.bool v)) h C L (G.set i v):=by
 have hf:=fr_set1 w h.bG i (.bool v);obtain⟨n1,n2,n3,n4⟩:=s.neG;obtain⟨n5,n6,n7⟩:=s.neX;have z:∀ {k:Nat},h.bG≠k→k ∉ [h.bG]:=fun hk hm=>hk (List.mem_singleton.1 hm).symm
 exact⟨hf.cell s.c0 (z n1),hf.cell s.c1 (z n1),hf.cell s.c2 (z n1),hf.cell s.c3 (z n1),hf.cell s.c4 (z n1),hf.cell s.c5 (z n1),hf.cell s.c6 (z n1),
  s.rR.fr hf (z n2),s.rF.fr hf (z n3),s.rM.fr hf (z n4),s.rC.fr hf (z n6.symm),s.rL.fr hf (z n7.symm),s.rG.set hi s.lG v,
  s.sC.set _ _,s.sL.set _ _,s.sG.set _ _,s.lC,s.lL,by rw[List.length_set];exact s.lG,s.neC,s.neL,s.neG,s.neX⟩
theorem PS.lt {w:World}{h:PH}{C L:List Int}{G:List Bool}(s:PS w h C L G):h.p<w.heap.size:=World.block_lt_of_cell? _ _ s.c0
end Go.Proofs.YtnakejhohdbfdabGreatDoor
namespace Go.Proofs.YtnakejhohdbfdabGreatDoor
open Go.RowKit Lev
theorem ownsRow_take {w:World}{base:Nat}{e:TypeId}{size g cap n j:Nat}{xs:List Value}(h:w.ownsRow base e size (.slice (some ⟨g,0,none⟩) n cap) n xs)(hj:j≤n) :
 w.ownsRow base e size (.slice (some ⟨g,0,none⟩) j cap) j (xs.take (j * size)):=by
 obtain⟨hl,h2⟩:=h
 rcases h2 with⟨h0,_⟩ | ⟨g',cap',cur,hv,hg,hh,hn,hcap,hsz,htake⟩
 ·cases h0
 ·cases hv
  have hm:j * size≤n * size:=Nat.mul_le_mul_right _ hj;refine⟨by rw[List.length_take,hl];omega,.inr ⟨g,cap,cur,rfl,hg,hh,by omega,hcap,hsz,?_⟩⟩;rw[←htake,List.take_take,Nat.min_eq_left hm]
theorem owns_apart {w:World}{B B':Nat}{e e':TypeId}{size size':Nat}{v v':Value}{n n':Nat}{xs xs':List Value}(h:w.ownsRow B e size v n xs)(h':w.ownsRow B' e' size' v' n' xs')(he:e≠e'){g g':Nat}(hv:v.ownBlock=some g)(hv':v'.ownBlock=some g'):g≠g':=by
 intro hg;subst hg
 rcases h.2 with⟨rfl,_⟩ | ⟨g1,c1,cur1,rfl,_,hg1,_⟩
 ·cases hv
 ·rcases h'.2 with⟨rfl,_⟩ | ⟨g2,c2,cur2,rfl,_,hg2,_⟩
  ·cases hv'
  ·simp only[Value.ownBlock,Option.some.injEq]at hv hv'
   subst hv;subst hv';rw[hg1]at hg2;cases hg2;exact he rfl
theorem owns_shape {w:World}{B:Nat}{e:TypeId}{size:Nat}{v:Value}{n:Nat}{xs:List Value}(hn:0<n)(h:w.ownsRow B e size v n xs):∃g cap,v=.slice (some ⟨g,0,none⟩) n cap:=by
 rcases h.2 with⟨_,h0⟩ | ⟨g,cap,cur,rfl,_⟩
 ·omega
 ·exact⟨g,cap,rfl⟩
theorem owns_slice {w:World}{B:Nat}{e:TypeId}{size:Nat}{v:Value}{n:Nat}{xs:List Value}(h:w.ownsRow B e size v n xs):∃a cap,v=.slice a n cap:=by
 rcases h.2 with⟨h0,rfl⟩ | ⟨g,cap,cur,rfl,_⟩
 ·exact⟨none,0,h0⟩
 ·exact⟨_,cap,rfl⟩
theorem owns_at {w:World}{base:Nat}{e:TypeId}{size:Nat}{n g cap:Nat}{xs:List Value}(h:w.ownsRow base e size (.slice (some ⟨g,0,none⟩) n cap) n xs):base≤g∧g<w.heap.size:=h.lt g rfl
theorem owns_low {w:World}{base base':Nat}{e:TypeId}{size:Nat}{v:Value}{n:Nat}{xs:List Value}(h:w.ownsRow base e size v n xs)(hb:base'≤base):w.ownsRow base' e size v n xs:=by
 refine⟨h.1,?_⟩
 rcases h.2 with h1 | ⟨g,cap,cur,hv,hg,r⟩
 ·exact .inl h1
 ·exact .inr ⟨g,cap,cur,hv,by omega,r⟩
theorem owns_fr {S:List Nat}{w w':World}{base:Nat}{e:TypeId}{size:Nat}{v:Value}{n:Nat}{xs:List Value}(h:w.ownsRow base e size v n xs)(hf:Fr S w w')(hv:∀g,v.ownBlock=some g→g ∉ S):w'.ownsRow base e size v n xs:=by
 refine⟨h.1,?_⟩
 rcases h.2 with h1 | ⟨g,cap,cur,rfl,hg,hh,r⟩
 ·exact .inl h1
 ·exact .inr ⟨g,cap,cur,rfl,hg,(hf.block g (Array.getElem?_eq_some_iff.1 hh).1 (hv g rfl)).trans hh,r⟩
theorem owns_fr0 {w w':World}{base:Nat}{e:TypeId}{size:Nat}{v:Value}{n:Nat}{xs:List Value}(h:w.ownsRow base e size v n xs)(hf:Fr [] w w'):w'.ownsRow base e size v n xs:=owns_fr h hf (fun _ _=>List.not_mem_nil)
theorem owns_frB {S:List Nat}{w w':World}{base:Nat}{e:TypeId}{size:Nat}{v:Value}{n:Nat}{xs:List Value}(h:w.ownsRow base e size v n xs)(hf:Fr S w w')(hS:∀k∈S,k<base):w'.ownsRow base e size v n xs :=
 owns_fr h hf (fun g hg hm=>by have:=(h.lt g hg).1;have:=hS g hm;omega)
theorem Fr.grown {S:List Nat}{w w1 w':World}{row:Option Nat}(h:Fr S w w1)(hg:w1.grownBy w' row)(hr:∀k,row=some k→w.heap.size≤k):Fr S w w' :=
 ⟨hg.os.trans h.os,hg.tape.trans h.tape,hg.output.trans h.output,Nat.le_trans h.size hg.size,fun k hk hs=>(hg.block k (Nat.lt_of_lt_of_le hk h.size) (fun e=>by have:=hr k e.symm;omega)).trans (h.block k hk hs)⟩
theorem owns_grown {w w':World}{row:Option Nat}{base:Nat}{e:TypeId}{size:Nat}{v:Value}{n:Nat}{xs:List Value}(h:w.ownsRow base e size v n xs)(hg:w.grownBy w' row)(hne:∀g,v.ownBlock=some g→some g≠row):w'.ownsRow base e size v n xs:=by
 refine⟨h.1,?_⟩
 rcases h.2 with h1 | ⟨g,cap,cur,rfl,hgb,hh,r⟩
 ·exact .inl h1
 ·exact .inr ⟨g,cap,cur,rfl,hgb,(hg.block g (Array.getElem?_eq_some_iff.1 hh).1 (hne g rfl)).trans hh,r⟩
theorem info3:(Tryz.prog.info? 3).map (fun i=>(i.zero,i.size,i.bytes))=some (some (.int .i64 0),1,8):=by kernel_rfl
theorem one_cell (x:Int):∀u∈[Value.int .i64 x],u.oneCell'=true:=by
 intro u hu;rw[List.mem_singleton]at hu;subst hu;rfl
theorem news_cells (w:World)(cs:Array Value)(t:TypeId):∀j u,cs.toList[j]?=some u→(w.alloc (.cells cs t)).cell? ((⟨w.heap.size,0,none⟩:Addr).add j)=some u:=by
 intro j u hj;rw[Addr.add_lit,Nat.zero_add,World.cell?_alloc_at _ _ _ _ rfl];simpa using hj
theorem news_at (w:World)(cs:Array Value)(t:TypeId)(b:Nat)(hb:b=w.heap.size):∀j u,cs.toList[j]?=some u→(w.alloc (.cells cs t)).cell? ((⟨b,0,none⟩:Addr).add j)=some u:=by
 subst hb;exact news_cells w cs t
def intsN (l:List Nat):List Value:=l.map fun x=>.int .i64 (x:Nat)
theorem intsN_len (l:List Nat):(intsN l).length=l.length:=by simp[intsN]
theorem intsN_snoc (l:List Nat)(x:Nat):intsN l++[.int .i64 (x:Nat)]=intsN (l++[x]):=by simp[intsN]
theorem intsN_take (l:List Nat)(j:Nat):(intsN l).take (j * 1)=intsN (l.take j):=by simp[intsN]
theorem intsN_at {l:List Nat}{j:Nat}(h:j<l.length):(intsN l)[j]?=some (.int .i64 (nix l j:Nat)):=by
 rw[intsN,List.getElem?_map,List.getElem?_eq_getElem h];simp[nix,List.getElem?_eq_getElem h]
theorem intsN_one (l:List Nat):∀u∈intsN l,u.oneCell'=true:=by
 intro u hu;obtain⟨x,_,rfl⟩:=List.mem_map.1 hu;rfl
theorem owns_rowN {w:World}{B:Nat}{n g cap:Nat}{l:List Nat}(h:w.ownsRow B 3 1 (.slice (some ⟨g,0,none⟩) n cap) n (intsN l))(hl:l.length=n):rowN w g n l:=by
 intro i hi;rw[h.cellAt i (by omega),intsN_at (by omega)]
end Go.Proofs.YtnakejhohdbfdabGreatDoor
namespace Go.Proofs.YtnakejhohdbfdabGreatDoor
open Go.RowKit Lev
end Go.Proofs.YtnakejhohdbfdabGreatDoor
namespace Go.Proofs.YtnakejhohdbfdabGreatDoor
open Go.RowKit Lev
theorem PS.drew {w:World}{q:PH}{C L:List Int}{G:List Bool}(s:PS w q C L G):PS w.drew q C L G:=s.fr0 (Fr.refl [] w).drew
theorem PS.drewN {w:World}{q:PH}{C L:List Int}{G:List Bool}(s:PS w q C L G)(n:Nat):PS (w.drewN n) q C L G:=s.fr0 ((Fr.refl [] w).drewN n)
structure IS (w:World)(q:PH)(bI:Nat)(I:List Nat):Prop where
 r:rowN w bI I.length I
 lt:∀k,k<I.length→nix I k<q.n
 ne:bI≠q.bC∧bI≠q.bL∧bI≠q.bG
 sm:I.length≤1000000
theorem IS.fr {S:List Nat}{w w':World}{q:PH}{bI:Nat}{I:List Nat}(s:IS w q bI I)(hf:Fr S w w')(hb:bI ∉ S):IS w' q bI I:=⟨s.r.fr hf hb,s.lt,s.ne,s.sm⟩
end Go.Proofs.YtnakejhohdbfdabGreatDoor
namespace Go.Proofs.YtnakejhohdbfdabGreatDoor
open Go.RowKit Lev
theorem cell_far (w:World)(b i:Nat)(v:Value)(c j:Nat)(h:b≠c):(w.setCell ⟨b,i,none⟩ v).cell? ⟨c,j,none⟩=w.cell? ⟨c,j,none⟩ :=
 World.cell?_of_block (a:=⟨c,j,none⟩) (Below.heap_setCell _ _ _ _ (fun e=>h e.symm))
def boxAt (wr:World)(b bI m cI:Nat)(own bef aft:Int):Prop:=∀j v,(#[Value.slice (some ⟨bI,0,none⟩) m cI,.int .i64 own,.int .i64 bef,.int .i64 aft]:Array Value)[j]?=some v→wr.cell? ⟨b,j,none⟩=some v
theorem boxAt.fr {S:List Nat}{w w':World}{b bI m cI:Nat}{own bef aft:Int}(h:boxAt w b bI m cI own bef aft)(hf:Fr S w w')(hb:b ∉ S):boxAt w' b bI m cI own bef aft:=fun j v hv=>hf.cell (h j v hv) hb
theorem set_set_same (C:List Int)(i:Nat)(a b:Int):(C.set i a).set i b=C.set i b:=by simp
theorem frz (S:List Nat)(w w':World)(h1:w'.os=w.os)(h2:w'.tape=w.tape)(h3:w'.output=w.output)(h4:w'.heap=w.heap):Fr S w w':=⟨h1,h2,h3,by rw[h4];exact Nat.le_refl _,fun _ _ _=>by rw[h4]⟩
end Go.Proofs.YtnakejhohdbfdabGreatDoor
namespace Go.Proofs.YtnakejhohdbfdabGreatDoor.Lay
def turnA (p:Nat→Bool):List Nat→List Nat→List Nat
 | acc,[]=>acc
 | acc,x :: l=>if p x then turnA p (x :: acc) l else acc++x :: turnA p [] l
def turn (p:Nat→Bool)(l:List Nat):List Nat:=turnA p [] l
theorem turnA_all (p:Nat→Bool):∀(l acc:List Nat),(∀x∈l,p x=true)→turnA p acc l=l.reverse++acc
 | [],acc,_=>rfl
 | x :: l,acc,h=>by
   rw[turnA,if_pos (h x (by simp)),turnA_all p l _ (fun y hy=>h y (by simp[hy]))];simp
theorem turnA_stop (p:Nat→Bool)(x:Nat)(b:List Nat)(hx:p x=false):∀(a acc:List Nat),turnA p acc (a++x :: b)=turnA p acc a++x :: turn p b
 | [],acc=>by show turnA p acc (x :: b)=acc++x :: turnA p [] b;rw[turnA.eq_2,if_neg (by rw[hx];exact Bool.false_ne_true)]
 | y :: a,acc=>by
   rw[List.cons_append,turnA,turnA];by_cases hy:p y=true
   ·rw[if_pos hy,if_pos hy];exact turnA_stop p x b hx a _
   ·rw[if_neg hy,if_neg hy,turnA_stop p x b hx a []];simp
theorem turn_stop (p:Nat→Bool)(x:Nat)(a b:List Nat)(hx:p x=false):turn p (a++x :: b)=turn p a++x :: turn p b:=turnA_stop p x b hx a []
theorem turn_all (p:Nat→Bool)(l:List Nat)(h:∀x∈l,p x=true):turn p l=l.reverse:=by rw[turn,turnA_all p l [] h];simp
theorem turn_snoc (p:Nat→Bool)(x:Nat)(a:List Nat)(hx:p x=false):turn p (a++[x])=turn p a++[x]:=by
 rw[turn_stop p x a [] hx];rfl
def shut (p:Nat→Bool)(a:List Nat):Prop:=a=[]∨∃b x,a=b++[x]∧p x=false
theorem turn_run (p:Nat→Bool)(a r:List Nat)(ha:shut p a)(hr:∀x∈r,p x=true):turn p (a++r)=turn p a++r.reverse:=by
 rcases ha with rfl | ⟨b,x,rfl,hx⟩
 ·rw[List.nil_append,turn_all p r hr];rfl
 ·rw[List.append_assoc,List.singleton_append,turn_stop p x b r hx,turn_snoc p x b hx,turn_all p r hr];simp
theorem turn_turnA (p:Nat→Bool):∀(l acc:List Nat),(∀x∈acc,p x=true)→turn p (turnA p acc l)=acc.reverse++l
 | [],acc,h=>by rw[turnA,turn_all p acc h];simp
 | x :: l,acc,h=>by
   rw[turnA];by_cases hx:p x=true
   ·rw[if_pos hx,turn_turnA p l (x :: acc) (fun y hy=>by rcases List.mem_cons.1 hy with e | hy <;> first | exact e ▸ hx | exact h y hy)];simp
   ·have hx':p x=false:=by simpa using hx
    rw[if_neg hx,turn_stop p x _ _ hx',turn_all p acc h,turn_turnA p l [] (fun y hy=>by cases hy)];simp
theorem turn_turn (p:Nat→Bool)(l:List Nat):turn p (turn p l)=l:=by
 have:=turn_turnA p l [] (fun y hy=>by cases hy);simpa[turn] using this
theorem turnA_perm (p:Nat→Bool):∀(l acc:List Nat),(turnA p acc l).Perm (acc++l)
 | [],acc=>by rw[turnA,List.append_nil]
 | x :: l,acc=>by
   rw[turnA];split
   ·refine(turnA_perm p l (x :: acc)).trans ?_
    rw[List.cons_append];exact(List.perm_middle (a:=x) (l₁:=acc) (l₂:=l)).symm
   ·refine List.Perm.append_left acc ?_
    exact List.Perm.cons x (by simpa using turnA_perm p l [])
theorem turn_perm (p:Nat→Bool)(l:List Nat):(turn p l).Perm l:=by simpa[turn] using turnA_perm p l []
theorem turnA_map (p:Nat→Bool)(f:Nat→Nat):∀(l acc:List Nat),turnA p (acc.map f) (l.map f)=(turnA (fun x=>p (f x)) acc l).map f
 | [],acc=>rfl
 | x :: l,acc=>by
   rw[List.map_cons,turnA,turnA];by_cases hx:p (f x)=true
   ·rw[if_pos hx,if_pos hx];exact turnA_map p f l (x :: acc)
   ·rw[if_neg hx,if_neg hx,List.map_append,List.map_cons];exact congrArg _ (congrArg _ (turnA_map p f l []))
theorem turn_map (p:Nat→Bool)(f:Nat→Nat)(l:List Nat):turn p (l.map f)=(turn (fun x=>p (f x)) l).map f:=turnA_map p f l []
theorem turnA_congr {p q:Nat→Bool}:∀(l acc:List Nat),(∀x∈l,p x=q x)→turnA p acc l=turnA q acc l
 | [],acc,_=>rfl
 | x :: l,acc,h=>by
   rw[turnA,turnA,h x (by simp),turnA_congr l _ (fun y hy=>h y (by simp[hy])),turnA_congr l _ (fun y hy=>h y (by simp[hy]))]
theorem turn_congr {p q:Nat→Bool}(l:List Nat)(h:∀x∈l,p x=q x):turn p l=turn q l:=turnA_congr l [] h
def deep (V:Nat→Int)(l:Nat)(x:Nat):Bool:=decide ((l:Int)≤V x)
def tds (V:Nat→Int)(m:Nat):Nat→List Nat→List Nat
 | 0,l=>l
 | k+1,l=>tds V m k (turn (deep V (m+k)) l)
theorem tds_perm (V:Nat→Int)(m:Nat):∀(k:Nat) (l:List Nat),(tds V m k l).Perm l
 | 0,_=>List.Perm.refl _
 | k+1,l=>(tds_perm V m k _).trans (turn_perm _ l)
theorem tds_app (V:Nat→Int)(m j:Nat):∀(k:Nat) (l:List Nat),tds V m (j+k) l=tds V m j (tds V (m+j) k l)
 | 0,l=>rfl
 | k+1,l=>by
   rw[←Nat.add_assoc,tds,tds_app V m j k,tds,Nat.add_assoc m j k]
theorem tds_even (V:Nat→Int):∀(q:Nat) (l:List Nat),(∀x∈l,∀j:Nat,j<q→V x≠2 * (j:Int)+1)→tds V 1 (2 * q) l=l
 | 0,l,_=>rfl
 | q+1,l,h=>by
   rw[show 2 * (q+1)=(2 * q+1)+1 by omega,tds,tds];have e:turn (deep V (1+2 * q)) (turn (deep V (1+(2 * q+1))) l)=l:=by
    rw[turn_congr (q:=deep V (1+(2 * q+1))) (turn (deep V (1+(2 * q+1))) l) ?_,turn_turn];intro x hx;have hm:x∈l:=(turn_perm _ l).mem_iff.1 hx;have:=h x hm q (by omega);unfold deep;exact decide_eq_decide.2 (by omega)
   rw[e];exact tds_even V q l fun x hx j hj=>h x hx j (by omega)
theorem tds_least (V:Nat→Int)(l:List Nat)(top q:Nat)(hq:2 * q+1≤top)(ho:∀x∈l,∀j:Nat,j<q→V x≠2 * (j:Int)+1):tds V 1 top l=tds V (2 * q+1) (top - 2 * q) l:=by
 rw[show top=2 * q+(top - 2 * q) by omega,tds_app V 1 (2 * q) (top - 2 * q),show 2 * q+(top - 2 * q) - 2 * q=top - 2 * q by omega,Nat.add_comm 1 (2 * q)];exact tds_even V q _ fun x hx j hj=>ho x ((tds_perm V _ _ l).mem_iff.1 hx) j hj
theorem tds_none (V:Nat→Int)(l:List Nat)(top:Nat)(he:top % 2=0)(ho:∀x∈l,∀j:Nat,V x≠2 * (j:Int)+1):tds V 1 top l=l:=by
 rw[show top=2 * (top / 2) by omega];exact tds_even V _ l fun x hx j _=>ho x hx j
theorem tds_map (V:Nat→Int)(f:Nat→Nat)(m:Nat):∀(k:Nat) (l:List Nat),tds V m k (l.map f)=(tds (fun x=>V (f x)) m k l).map f
 | 0,l=>rfl
 | k+1,l=>by rw[tds,turn_map,tds_map V f m k];rfl
theorem tds_congr {V U:Nat→Int}(m:Nat):∀(k:Nat) (l:List Nat),(∀x∈l,V x=U x)→tds V m k l=tds U m k l
 | 0,l,_=>rfl
 | k+1,l,h=>by
   rw[tds,tds,turn_congr (q:=deep U (m+k)) l (fun x hx=>by unfold deep;rw[h x hx])];exact tds_congr m k _ fun x hx=>h x ((turn_perm _ l).mem_iff.1 hx)
def revR (l:List Nat)(a b:Nat):List Nat:=l.take a++((l.take b).drop a).reverse++l.drop b
def partsTo (p:Nat→Bool)(l:List Nat):Nat→List (Nat × Nat) × Nat
 | 0=>([],0)
 | g+1 =>
   if g<l.length∧p (l[g]?.getD 0)=true then partsTo p l g
   else(if(partsTo p l g).2<g then(partsTo p l g).1++[((partsTo p l g).2,g)]else(partsTo p l g).1,g+1)
def parts (p:Nat→Bool)(l:List Nat):List (Nat × Nat):=(partsTo p l (l.length+1)).1
def revs (l:List Nat)(m:List (Nat × Nat)):List Nat:=m.foldl (fun l x=>revR l x.1 x.2) l
theorem revs_snoc (l:List Nat)(m:List (Nat × Nat))(x:Nat × Nat):revs l (m++[x])=revR (revs l m) x.1 x.2:=by simp[revs]
theorem revR_length (l:List Nat)(a b:Nat)(h:a≤b)(hb:b≤l.length):(revR l a b).length=l.length:=by
 simp[revR];omega
theorem revR_mid (x r y:List Nat):revR (x++(r++y)) x.length (x.length+r.length)=x++(r.reverse++y):=by
 unfold revR;rw[List.take_left,←List.append_assoc,List.take_append_of_le_length (by simp),show x.length+r.length=(x++r).length by simp,List.drop_left,List.take_length,List.drop_left,List.append_assoc]
structure PartsOk (p:Nat→Bool)(l:List Nat)(g:Nat):Prop where
 le:(partsTo p l g).2≤g
 mid:∀x∈(l.take g).drop (partsTo p l g).2,p x=true
 sh:shut p (l.take (partsTo p l g).2)
 bound:∀x∈(partsTo p l g).1,x.1<x.2∧x.2<(partsTo p l g).2
 is:revs l (partsTo p l g).1=turn p (l.take (partsTo p l g).2)++l.drop (partsTo p l g).2
theorem take_split (l:List Nat)(a b:Nat)(h:a≤b):l.take b=l.take a++(l.take b).drop a:=by
 have:=(List.take_append_drop a (l.take b)).symm
 rwa [List.take_take,Nat.min_eq_left h]at this
theorem take_next (l:List Nat)(g:Nat)(h:g<l.length):l.take (g+1)=l.take g++[l[g]?.getD 0]:=by
 rw[List.take_add_one,List.getElem?_eq_getElem h];rfl
theorem drop_next (l:List Nat)(g:Nat)(h:g<l.length):l.drop g=(l[g]?.getD 0) :: l.drop (g+1):=by
 rw[List.drop_eq_getElem_cons h,List.getElem?_eq_getElem h];rfl
theorem parts_ok (p:Nat→Bool)(l:List Nat):∀g,g≤l.length→PartsOk p l g
 | 0,_=>⟨Nat.le_refl _,by simp,.inl (by simp[partsTo]),by simp[partsTo],by simp[partsTo,revs,turn,turnA]⟩
 | g+1,h=>by
   have ih:=parts_ok p l g (by omega);by_cases hp:p (l[g]?.getD 0)=true
   ·have e:partsTo p l (g+1)=partsTo p l g:=by rw[partsTo,if_pos ⟨by omega,hp⟩]
    refine⟨by rw[e];have:=ih.le;omega,?_,by rw[e];exact ih.sh,by rw[e];exact ih.bound,by rw[e];exact ih.is⟩;rw[e,take_next l g (by omega),List.drop_append_of_le_length (by rw[List.length_take];have:=ih.le;omega)];intro x hx;rw[List.mem_append,List.mem_singleton]at hx
    rcases hx with hx | rfl
    ·exact ih.mid x hx
    ·exact hp
   ·have hp':p (l[g]?.getD 0)=false:=by simpa using hp
    have e2:(partsTo p l (g+1)).2=g+1:=by rw[partsTo,if_neg (fun h=>hp h.2)]
    have e1:(partsTo p l (g+1)).1=if(partsTo p l g).2<g then(partsTo p l g).1++[((partsTo p l g).2,g)]else(partsTo p l g).1:=by rw[partsTo,if_neg (fun h=>hp h.2)]
    have hle:=ih.le;refine⟨by omega,by rw[e2];simp,?_,?_,?_⟩
    ·rw[e2,take_next l g (by omega)];exact .inr ⟨_,_,rfl,hp'⟩
    ·rw[e1,e2]
     intro x hx;split at hx
     ·rw[List.mem_append,List.mem_singleton]at hx
      rcases hx with hx | rfl
      ·have:=ih.bound x hx;omega
      ·dsimp only;omega
     ·have:=ih.bound x hx;omega
    ·rw[e1,e2]
     have hs:=take_split l (partsTo p l g).2 g hle;have ht:=turn_run p _ _ ih.sh ih.mid;rw[←hs]at ht;have hd:l.drop (partsTo p l g).2=(l.take g).drop (partsTo p l g).2++l.drop g:=by
      have h3:=List.take_append_drop (g - (partsTo p l g).2) (l.drop (partsTo p l g).2);rw[List.drop_drop,show(partsTo p l g).2+(g - (partsTo p l g).2)=g by omega,←List.drop_take]at h3;exact h3.symm
     have hx:turn p (l.take (g+1))++l.drop (g+1)=turn p (l.take (partsTo p l g).2)++(((l.take g).drop (partsTo p l g).2).reverse++l.drop g):=by
      rw[take_next l g (by omega),turn_snoc p _ _ hp',ht,drop_next l g (by omega)];simp
     rw[hx];split
     ·rename_i hlt
      rw[revs_snoc,ih.is,hd];have h1:(turn p (l.take (partsTo p l g).2)).length=(partsTo p l g).2:=by rw[(turn_perm p _).length_eq,List.length_take];omega
      have h2:((l.take g).drop (partsTo p l g).2).length=g - (partsTo p l g).2:=by rw[List.length_drop,List.length_take];omega
      have h3:=revR_mid (turn p (l.take (partsTo p l g).2)) ((l.take g).drop (partsTo p l g).2) (l.drop g);rw[h1,h2,show(partsTo p l g).2+(g - (partsTo p l g).2)=g by omega]at h3;exact h3
     ·have:(partsTo p l g).2=g:=by omega
      rw[ih.is,this];simp
theorem parts_turn (p:Nat→Bool)(l:List Nat):revs l (parts p l)=turn p l:=by
 have ih:=parts_ok p l l.length (Nat.le_refl _);unfold parts;have e1:(partsTo p l (l.length+1)).1=if(partsTo p l l.length).2<l.length then(partsTo p l l.length).1++[((partsTo p l l.length).2,l.length)]else(partsTo p l l.length).1:=by rw[partsTo,if_neg (fun h=>by omega)]
 have hle:=ih.le;have ht:=turn_run p _ _ ih.sh ih.mid;rw[←take_split l _ _ hle,List.take_length]at ht;rw[e1];split
 ·rename_i hlt
  rw[revs_snoc,ih.is,ht];have h1:(turn p (l.take (partsTo p l l.length).2)).length=(partsTo p l l.length).2:=by rw[(turn_perm p _).length_eq,List.length_take];omega
  have h3:=revR_mid (turn p (l.take (partsTo p l l.length).2)) (l.drop (partsTo p l l.length).2) [];rw[h1,List.length_drop,show(partsTo p l l.length).2+(l.length - (partsTo p l l.length).2)=l.length by omega,List.append_nil,List.append_nil]at h3;exact h3
 ·have:(partsTo p l l.length).2=l.length:=by omega
  rw[ih.is,this];simp
theorem parts_bound (p:Nat→Bool)(l:List Nat):∀x∈parts p l,x.1<x.2∧x.2≤l.length:=by
 have ih:=parts_ok p l l.length (Nat.le_refl _);have hle:=ih.le;intro x hx;unfold parts at hx;rw[partsTo,if_neg (fun h=>by omega)]at hx;dsimp only at hx;split at hx
 ·rw[List.mem_append,List.mem_singleton]at hx
  rcases hx with hx | rfl
  ·have:=ih.bound x hx;omega
  ·dsimp only;omega
 ·have:=ih.bound x hx;omega
end Go.Proofs.YtnakejhohdbfdabGreatDoor.Lay
namespace Go.Proofs.YtnakejhohdbfdabGreatDoor.Lay
open Lev
def swp (l:List Nat)(a b:Nat):List Nat:=(l.set a (nix l b)).set b (nix l a)
def revTo (l:List Nat)(i j:Nat):Nat→List Nat
 | 0=>l
 | t+1=>swp (revTo l i j t) (i+t) (j - 1 - t)
theorem swp_len (l:List Nat)(a b:Nat):(swp l a b).length=l.length:=by simp[swp]
theorem revTo_len (l:List Nat)(i j:Nat):∀t,(revTo l i j t).length=l.length
 | 0=>rfl
 | t+1=>by rw[revTo,swp_len,revTo_len l i j t]
theorem revR_at (l:List Nat)(i j:Nat)(hij:i≤j)(hj:j≤l.length)(k:Nat):nix (revR l i j) k=if i≤k∧k<j then nix l (i+j - 1 - k)else nix l k:=by
 unfold revR nix;by_cases h1:k<i
 ·rw[if_neg (by omega),List.append_assoc,List.getElem?_append_left (by rw[List.length_take];omega),List.getElem?_take_of_lt h1]
 ·have hl1:(l.take i).length=i:=by rw[List.length_take];omega
  have hl2:((l.take j).drop i).reverse.length=j - i:=by rw[List.length_reverse,List.length_drop,List.length_take];omega
  by_cases h2:k<j
  ·rw[if_pos (by omega),List.append_assoc,List.getElem?_append_right (by omega),hl1,List.getElem?_append_left (by omega),List.getElem?_reverse (by rw[List.length_drop,List.length_take];omega),List.length_drop,List.length_take,List.getElem?_drop,List.getElem?_take_of_lt (by omega)]
   congr 2;omega
  ·rw[if_neg (by omega),List.getElem?_append_right (by rw[List.length_append];omega),List.length_append,hl1,hl2,List.getElem?_drop]
   congr 2;omega
def topTo (V:Nat→Int):Nat→Int
 | 0=>0
 | k+1=>max (topTo V k) (V k)
theorem topTo_le (V:Nat→Int)(M:Int)(hM:0≤M)(h:∀k,V k≤M):∀k,0≤topTo V k∧topTo V k≤M
 | 0=>⟨Int.le_refl _,hM⟩
 | k+1=>by have:=topTo_le V M hM h k;have:=h k;rw[topTo];omega
theorem topTo_ge (V:Nat→Int):∀k i,i<k→V i≤topTo V k
 | 0,i,h=>by omega
 | k+1,i,h=>by
   rw[topTo]
   rcases Nat.lt_or_eq_of_le (Nat.le_of_lt_succ h)with h1 | h1
   ·have:=topTo_ge V k i h1;omega
   ·subst h1;omega
def ordD (V:Nat→Int)(n:Nat):List Nat:=tds V 1 (topTo V n).toNat (List.range n)
theorem ordD_perm (V:Nat→Int)(n:Nat):(ordD V n).Perm (List.range n):=tds_perm V 1 _ _
theorem ordD_len (V:Nat→Int)(n:Nat):(ordD V n).length=n:=by rw[(ordD_perm V n).length_eq,List.length_range]
theorem ordD_lt (V:Nat→Int)(n:Nat):∀x∈ordD V n,x<n:=fun _ hx=>List.mem_range.1 ((ordD_perm V n).mem_iff.1 hx)
theorem nix_mem {l:List Nat}{k:Nat}(h:k<l.length):nix l k∈l:=by rw[nix,List.getElem?_eq_getElem h];exact List.getElem_mem _
end Go.Proofs.YtnakejhohdbfdabGreatDoor.Lay
namespace Go.Proofs.YtnakejhohdbfdabGreatDoor
open Go.RowKit Lev Lay
theorem intsN_set (l:List Nat)(a x:Nat):(intsN l).set a (.int .i64 (x:Nat))=intsN (l.set a x):=by simp[intsN,List.map_set]
end Go.Proofs.YtnakejhohdbfdabGreatDoor

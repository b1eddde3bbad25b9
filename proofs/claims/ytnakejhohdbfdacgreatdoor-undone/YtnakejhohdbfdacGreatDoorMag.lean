import Derived.Laws.AppendOwnNone
import Derived.OwnWalk
import Derived.Deep.RegionWith
import Derived.Deep.CutRange
import Derived.Test.YtnakejhohdbfdacGreatDoorMae
import Derived.Maps.AppendAt
namespace Go.Proofs.YtnakejhohdbfdacGreatDoor
open Go.RowKit j9
theorem hid {p:Prop}(h:p):Hid p:=h
theorem tF {a b:Bool}(h:a=b):(Ending.returned (.bool a))=.returned (.bool b):=by rw[h]
theorem BC {a b:Int}{k:IntKind}(h:a=b):(Ending.returned (.int k a))=.returned (.int k b):=by rw[h]
abbrev iS (l:List Int):List Value:=l.map (Value.int .i64)
def rowAt (w:World)(g n:Nat)(l:List Int):Prop:=∀i,i<n->w.cell? ⟨g,i,none⟩=some (.int .i64 (nth l i))
theorem F1:∀(c:List Int) (p:Nat) (n:Int) (m:Nat),sW c p n=some m->p<=m
 | [],_,_,_,h=>by cases h
 | x :: xs,p,n,m,h=>by
   rw[sW]at h;by_cases h0:n+dn x=0
   ·rw[aE h0]at h;cases h;exact au _
   ·rw[ay h0]at h;have:=F1 xs (p+1) _ m h;omega
theorem A4 (c:List Int)(i m:Nat)(h:nO c i=some m):i<=m:=F1 _ _ _ _ h
theorem F2:∀(c:List Int) (p:Nat) (n:Int) (m:Nat),sW c p n=some m->m<p+c.length
 | [],_,_,_,h=>by cases h
 | x :: xs,p,n,m,h=>by
   rw[sW]at h;by_cases h0:n+dn x=0
   ·rw[aE h0]at h;cases h;simp
   ·rw[ay h0]at h;have:=F2 xs (p+1) _ m h;simp;omega
theorem EN (c:List Int)(i m:Nat)(h:nO c i=some m):m<c.length:=by
 have h1:=F2 _ _ _ _ h;have h2:=A4 c i m h;by_cases hi:i<=c.length
 ·rw[cJ]at h1;omega
 ·rw[nO,List.drop_eq_nil_of_le (by omega)]at h;cases h
theorem F5 (c:List Int)(i tt:Nat)(h:i<tt):strong c i tt =
 if nth c i=0 then false else if nth c i=1\/nth c i=2 then true
 else if mh (nth c i)then(match nO c i with | none=>false | some m=>if tt<=m then false else strong c (m+1) tt)
 else strong c (i+1) tt:=by
 have key:∀f g i,tt - i<=f->tt - i<=g->lW c tt f i=lW c tt g i:=by
  intro f
  induction f with
  | zero =>
    intro g i hf hg;cases g with
    | zero=>rfl
    | succ g=>rw[lW,lW,aE (by omega)]
  | succ f ih =>
    intro g i hf hg;cases g with
    | zero=>rw[lW,lW,aE (by omega)]
    | succ g =>
      rw[lW,lW];by_cases h1:tt<=i
      ·rw[aE h1,aE h1]
      ·rw[ay h1,ay h1]
       have h2:∀m,i<=m->lW c tt f (m+1)=lW c tt g (m+1):=fun m hm=>ih g (m+1) (by omega) (by omega)
       have h3:∀m,nO c i=some m->i<=m:=fun m hm=>A4 c i m hm
       rw[h2 i (au _)];cases hm:nO c i with
       | none=>rfl
       | some m=>simp only[h2 m (h3 m hm)]
 unfold strong;obtain⟨d,hd⟩:∃d,tt - i=d+1:=⟨tt - i - 1,by omega⟩;rw[hd,lW,ay (by omega)];have h3:∀m,nO c i=some m->i<=m:=fun m hm=>A4 c i m hm
 rw[key d (tt - (i+1)) (i+1) (by omega) (by omega)];cases hm:nO c i with
 | none=>rfl
 | some m=>simp only[key d (tt - (m+1)) (m+1) (by have:=h3 m hm;omega) (au _)]
structure Fr (S:List Nat)(w w':World):Prop where
 os:w'.os=w.os
 tape:w'.tape=w.tape
 output:w'.output=w.output
 size:w.heap.size<=w'.heap.size
 block:∀k,k<w.heap.size->k ∉ S->w'.heap[k]?=w.heap[k]?
theorem Fr.refl (S:List Nat)(w:World):Fr S w w:=⟨rfl,rfl,rfl,au _,fun _ _ _=>rfl⟩
theorem Fr.trans {S:List Nat}{w w' w'':World}(h:Fr S w w')(k:Fr S w' w''):Fr S w w'' :=
 ⟨k.os.trans h.os,k.tape.trans h.tape,k.output.trans h.output,aK h.size k.size,fun b hb hs=>(k.block b (aM hb h.size) hs).trans (h.block b hb hs)⟩
theorem Fr.mono {S T:List Nat}{w w':World}(h:Fr S w w')(hs:∀k,k∈S->k<w.heap.size->k∈T):Fr T w w' :=
 ⟨h.os,h.tape,h.output,h.size,fun k hk hn=>h.block k hk (fun hm=>hn (hs k hm hk))⟩
theorem Fr.of_below {S:List Nat}{w w':World}(h:Below w.heap.size w w'):Fr S w w':=⟨h.os,h.tape,h.output,h.size,fun k hk _=>h.block k hk⟩
theorem Fr.m8 {w w':World}{b:Nat}(h:w.grownBy w' (some b)):Fr [b] w w':=⟨h.os,h.tape,h.output,h.size,fun k hk hn=>h.block k hk (fun e=>hn (by cases e;simp))⟩
theorem Fr.vF {w w':World}(h:w.grownBy w' none):Fr [] w w':=⟨h.os,h.tape,h.output,h.size,fun k hk _=>h.block k hk (fun e=>by cases e)⟩
theorem Fr.below {S:List Nat}{w w':World}{B:Nat}(h:Fr S w w')(hB:B<=w.heap.size)(hs:∀k,k∈S->B<=k):Below B w w' :=
 ⟨h.os,h.tape,h.output,h.size,fun k hk=>h.block k (aM hk hB) (fun hm=>absurd (hs k hm) (by omega))⟩
theorem Fr.alloc {S:List Nat}{w w':World}(h:Fr S w w')(o:Obj):Fr S w (w'.alloc o) :=
 h.trans (Fr.of_below ((fN _ w').alloc (au _) o))
theorem Fr.set {S:List Nat}{w w':World}(h:Fr S w w'){b i:Nat}(hb:b∈S)(v:Value):Fr S w (w'.setCell ⟨b,i,none⟩ v):=by
 refine h.trans ?_;exact⟨rfl,rfl,rfl,by simp,fun k _ hn=>fP _ _ _ _ (fun e=>hn (by rw[e];exact hb))⟩
theorem Fr.drewN {S:List Nat}{w w':World}(h:Fr S w w')(n:Nat):Fr S w (w'.drewN n):=⟨h.os,h.tape,h.output,h.size,h.block⟩
theorem Fr.drew {S:List Nat}{w w':World}(h:Fr S w w'):Fr S w w'.drew:=⟨h.os,h.tape,h.output,h.size,h.block⟩
theorem Fr.cell {S:List Nat}{w w':World}(h:Fr S w w'){b i:Nat}{v:Value}(hc:w.cell? ⟨b,i,none⟩=some v)(hb:b ∉ S):w'.cell? ⟨b,i,none⟩=some v :=
 (gM (a:=⟨b,i,none⟩) (h.block b (fC _ _ hc) hb)).trans hc
theorem Fr.mq {S:List Nat}{w w':World}(h:Fr S w w'){b i:Nat}{v:Value}(hc:w.cell? ⟨b,i,none⟩=some v)(hb:b ∉ S)(hf:w.frozen? ⟨b,i,none⟩=false):w'.frozen? ⟨b,i,none⟩=false :=
 (World.frozen?_of_block (a:=⟨b,i,none⟩) (h.block b (fC _ _ hc) hb)).trans hf
def F6 (w:World)(g n:Nat)(l:List Bool):Prop:=∀i,i<n->w.cell? ⟨g,i,none⟩=some (.bool (l[i]?.getD false))
def EO (w:World)(g n:Nat)(I:List Nat):Prop:=∀i,i<n->w.cell? ⟨g,i,none⟩=some (.int .i64 (iP I i:Nat))
def Tk (w:World)(g n:Nat)(R:List Int):Prop:=∀i,i<n->w.cell? ⟨g,i * 3,none⟩=some (.int .i32 (nth R i))
def soft (w:World)(g n:Nat):Prop:=∀i,i<n->w.frozen? ⟨g,i,none⟩=false
theorem rowAt.fr {S:List Nat}{w w':World}{g n:Nat}{l:List Int}(h:rowAt w g n l)(hf:Fr S w w')(hg:g ∉ S):rowAt w' g n l:=fun i hi=>hf.cell (h i hi) hg
theorem F6.fr {S:List Nat}{w w':World}{g n:Nat}{l:List Bool}(h:F6 w g n l)(hf:Fr S w w')(hg:g ∉ S):F6 w' g n l:=fun i hi=>hf.cell (h i hi) hg
theorem EO.fr {S:List Nat}{w w':World}{g n:Nat}{l:List Nat}(h:EO w g n l)(hf:Fr S w w')(hg:g ∉ S):EO w' g n l:=fun i hi=>hf.cell (h i hi) hg
theorem Tk.fr {S:List Nat}{w w':World}{g n:Nat}{l:List Int}(h:Tk w g n l)(hf:Fr S w w')(hg:g ∉ S):Tk w' g n l:=fun i hi=>hf.cell (h i hi) hg
theorem soft.fr {S:List Nat}{w w':World}{g n:Nat}{l:List Int}(h:soft w g n)(hr:rowAt w g n l)(hf:Fr S w w')(hg:g ∉ S):soft w' g n:=fun i hi=>hf.mq (hr i hi) hg (h i hi)
theorem soft.frB {S:List Nat}{w w':World}{g n:Nat}{l:List Bool}(h:soft w g n)(hr:F6 w g n l)(hf:Fr S w w')(hg:g ∉ S):soft w' g n:=fun i hi=>hf.mq (hr i hi) hg (h i hi)
theorem xK (l:List Int)(i:Nat)(v:Int)(j:Nat)(hi:i<l.length):nth (l.set i v) j=if j=i then v else nth l j:=by
 unfold nth;by_cases h:j=i
 ·subst h;rw[aE rfl,bn hi];rfl
 ·rw[ay h,bJ (fun e=>h e.symm)]
theorem rowAt.set {w:World}{g n:Nat}{l:List Int}(h:rowAt w g n l){i:Nat}(hi:i<n)(hl:l.length=n)(v:Int):rowAt (w.setCell ⟨g,i,none⟩ (.int .i64 v)) g n (l.set i v):=by
 intro j hj;rw[xK l i v j (by omega)];by_cases e:j=i
 ·subst e;rw[aE rfl,gu _ _ _ (h j hj)]
 ·rw[ay e,gE _ _ _ _ (fun x=>e (by cases x;rfl))];exact h j hj
theorem F6.set {w:World}{g n:Nat}{l:List Bool}(h:F6 w g n l){i:Nat}(hi:i<n)(hl:l.length=n)(v:Bool):F6 (w.setCell ⟨g,i,none⟩ (.bool v)) g n (l.set i v):=by
 intro j hj;by_cases e:j=i
 ·subst e;rw[bn (by omega),gu _ _ _ (h j hj)];rfl
 ·rw[bJ (fun x=>e x.symm),gE _ _ _ _ (fun x=>e (by cases x;rfl))];exact h j hj
theorem soft.set {w:World}{g n:Nat}(h:soft w g n)(a:Addr)(v:Value):soft (w.setCell a v) g n:=by
 intro i hi;rw[World.frozen?_setCell];exact h i hi
theorem jT (w:World)(b i:Nat)(v:Value):Fr [b] w (w.setCell ⟨b,i,none⟩ v):=(Fr.refl [b] w).set (by simp) v
structure PH where
 p:Nat
 bR:Nat
 bF:Nat
 bC:Nat
 bL:Nat
 bM:Nat
 bG:Nat
 cR:Nat
 cF:Nat
 cC:Nat
 cL:Nat
 cM:Nat
 cG:Nat
 n:Nat
 R:List Int
 K:List Int
 M:List Int
 base:Int
structure PS (w:World)(h:PH)(C L:List Int)(G:List Bool):Prop where
 c0:w.cell? ⟨h.p,0,none⟩=some (.slice (some ⟨h.bR,0,none⟩) h.n h.cR)
 c1:w.cell? ⟨h.p,1,none⟩=some (.slice (some ⟨h.bF,0,none⟩) h.n h.cF)
 c2:w.cell? ⟨h.p,2,none⟩=some (.slice (some ⟨h.bC,0,none⟩) h.n h.cC)
 c3:w.cell? ⟨h.p,3,none⟩=some (.slice (some ⟨h.bL,0,none⟩) h.n h.cL)
 c4:w.cell? ⟨h.p,4,none⟩=some (.slice (some ⟨h.bM,0,none⟩) h.n h.cM)
 c5:w.cell? ⟨h.p,5,none⟩=some (.slice (some ⟨h.bG,0,none⟩) h.n h.cG)
 c6:w.cell? ⟨h.p,6,none⟩=some (.int .i64 h.base)
 rR:Tk w h.bR h.n h.R
 rF:rowAt w h.bF h.n h.K
 rM:rowAt w h.bM h.n h.M
 rC:rowAt w h.bC h.n C
 rL:rowAt w h.bL h.n L
 rG:F6 w h.bG h.n G
 sC:soft w h.bC h.n
 sL:soft w h.bL h.n
 sG:soft w h.bG h.n
 lC:C.length=h.n
 lL:L.length=h.n
 lG:G.length=h.n
 neC:h.bC≠h.p/\h.bC≠h.bR/\h.bC≠h.bF/\h.bC≠h.bM
 neL:h.bL≠h.p/\h.bL≠h.bR/\h.bL≠h.bF/\h.bL≠h.bM
 neG:h.bG≠h.p/\h.bG≠h.bR/\h.bG≠h.bF/\h.bG≠h.bM
 neX:h.bC≠h.bL/\h.bC≠h.bG/\h.bL≠h.bG
theorem PS.fr {S:List Nat}{w w':World}{h:PH}{C L:List Int}{G:List Bool}(s:PS w h C L G)(hf:Fr S w w')
 (hs:h.p ∉ S/\h.bR ∉ S/\h.bF ∉ S/\h.bM ∉ S/\h.bC ∉ S/\h.bL ∉ S/\h.bG ∉ S):PS w' h C L G :=
 ⟨hf.cell s.c0 hs.1,hf.cell s.c1 hs.1,hf.cell s.c2 hs.1,hf.cell s.c3 hs.1,hf.cell s.c4 hs.1,hf.cell s.c5 hs.1,hf.cell s.c6 hs.1,
  s.rR.fr hf hs.2.1,s.rF.fr hf hs.2.2.1,s.rM.fr hf hs.2.2.2.1,s.rC.fr hf hs.2.2.2.2.1,s.rL.fr hf hs.2.2.2.2.2.1,s.rG.fr hf hs.2.2.2.2.2.2,
  s.sC.fr s.rC hf hs.2.2.2.2.1,s.sL.fr s.rL hf hs.2.2.2.2.2.1,s.sG.frB s.rG hf hs.2.2.2.2.2.2,s.lC,s.lL,s.lG,s.neC,s.neL,s.neG,s.neX⟩
theorem PS.oN {w w':World}{h:PH}{C L:List Int}{G:List Bool}(s:PS w h C L G)(hf:Fr [] w w'):PS w' h C L G:=s.fr hf (by simp)
theorem PS.alloc {w:World}{h:PH}{C L:List Int}{G:List Bool}(s:PS w h C L G)(o:Obj):PS (w.alloc o) h C L G:=s.oN ((Fr.refl [] w).alloc o)
theorem PS.Cc {w:World}{h:PH}{C L:List Int}{G:List Bool}(s:PS w h C L G){i:Nat}(hi:i<h.n)(v:Int):PS (w.setCell ⟨h.bC,i,none⟩ (.int .i64 v)) h (C.set i v) L G:=by
 have hf:=jT w h.bC i (.int .i64 v);obtain⟨n1,n2,n3,n4⟩:=s.neC;obtain⟨n5,n6,n7⟩:=s.neX;have z:∀ {k:Nat},h.bC≠k->k ∉ [h.bC]:=fun hk hm=>hk (ak.1 hm).symm
 exact⟨hf.cell s.c0 (z n1),hf.cell s.c1 (z n1),hf.cell s.c2 (z n1),hf.cell s.c3 (z n1),hf.cell s.c4 (z n1),hf.cell s.c5 (z n1),hf.cell s.c6 (z n1),
  s.rR.fr hf (z n2),s.rF.fr hf (z n3),s.rM.fr hf (z n4),s.rC.set hi s.lC v,s.rL.fr hf (z n5),s.rG.fr hf (z n6),
  s.sC.set _ _,s.sL.set _ _,s.sG.set _ _,by rw[bK];exact s.lC,s.lL,s.lG,s.neC,s.neL,s.neG,s.neX⟩
theorem PS.LN {w:World}{h:PH}{C L:List Int}{G:List Bool}(s:PS w h C L G){i:Nat}(hi:i<h.n)(v:Int):PS (w.setCell ⟨h.bL,i,none⟩ (.int .i64 v)) h C (L.set i v) G:=by
 have hf:=jT w h.bL i (.int .i64 v);obtain⟨n1,n2,n3,n4⟩:=s.neL;obtain⟨n5,n6,n7⟩:=s.neX;have z:∀ {k:Nat},h.bL≠k->k ∉ [h.bL]:=fun hk hm=>hk (ak.1 hm).symm
 exact⟨hf.cell s.c0 (z n1),hf.cell s.c1 (z n1),hf.cell s.c2 (z n1),hf.cell s.c3 (z n1),hf.cell s.c4 (z n1),hf.cell s.c5 (z n1),hf.cell s.c6 (z n1),
  s.rR.fr hf (z n2),s.rF.fr hf (z n3),s.rM.fr hf (z n4),s.rC.fr hf (z n5.symm),s.rL.set hi s.lL v,s.rG.fr hf (z n7),
  s.sC.set _ _,s.sL.set _ _,s.sG.set _ _,s.lC,by rw[bK];exact s.lL,s.lG,s.neC,s.neL,s.neG,s.neX⟩
theorem PS.lt {w:World}{h:PH}{C L:List Int}{G:List Bool}(s:PS w h C L G):h.p<w.heap.size:=fC _ _ s.c0
theorem xL {w:World}{base:Nat}{e:TypeId}{size g cap n j:Nat}{xs:List Value}(h:w.ownsRow base e size (.slice (some ⟨g,0,none⟩) n cap) n xs)(hj:j<=n) :
 w.ownsRow base e size (.slice (some ⟨g,0,none⟩) j cap) j (xs.take (j * size)):=by
 obtain⟨hl,h2⟩:=h
 rcases h2 with⟨h0,_⟩ | ⟨g',cap',cur,hv,hg,hh,hn,hcap,hsz,htake⟩
 ·cases h0
 ·cases hv
  have hm:j * size<=n * size:=Nat.mul_le_mul_right _ hj;refine⟨by rw[bH,hl];omega,.inr ⟨g,cap,cur,rfl,hg,hh,by omega,hcap,hsz,?_⟩⟩;rw[<-htake,fq,Nat.min_eq_left hm]
theorem j7 {w:World}{B B':Nat}{e e':TypeId}{size size':Nat}{v v':Value}{n n':Nat}{xs xs':List Value}(h:w.ownsRow B e size v n xs)(h':w.ownsRow B' e' size' v' n' xs')(he:e≠e'){g g':Nat}(hv:v.ownBlock=some g)(hv':v'.ownBlock=some g'):g≠g':=by
 intro hg;subst hg
 rcases h.2 with⟨rfl,_⟩ | ⟨g1,c1,ahJ,rfl,_,hg1,_⟩
 ·cases hv
 ·rcases h'.2 with⟨rfl,_⟩ | ⟨g2,c2,ahK,rfl,_,hg2,_⟩
  ·cases hv'
  ·simp only[Value.ownBlock,eV]at hv hv'
   subst hv;subst hv';rw[hg1]at hg2;cases hg2;exact he rfl
theorem iQ {w:World}{B:Nat}{e:TypeId}{size:Nat}{v:Value}{n:Nat}{xs:List Value}(hn:0<n)(h:w.ownsRow B e size v n xs):∃g cap,v=.slice (some ⟨g,0,none⟩) n cap:=by
 rcases h.2 with⟨_,h0⟩ | ⟨g,cap,cur,rfl,_⟩
 ·omega
 ·exact⟨g,cap,rfl⟩
theorem iW {w:World}{B:Nat}{e:TypeId}{size:Nat}{v:Value}{n:Nat}{xs:List Value}(h:w.ownsRow B e size v n xs):∃a cap,v=.slice a n cap:=by
 rcases h.2 with⟨h0,rfl⟩ | ⟨g,cap,cur,rfl,_⟩
 ·exact⟨none,0,h0⟩
 ·exact⟨_,cap,rfl⟩
theorem ji {w:World}{base:Nat}{e:TypeId}{size:Nat}{n g cap:Nat}{xs:List Value}(h:w.ownsRow base e size (.slice (some ⟨g,0,none⟩) n cap) n xs):base<=g/\g<w.heap.size:=h.lt g rfl
theorem iU {w:World}{base base':Nat}{e:TypeId}{size:Nat}{v:Value}{n:Nat}{xs:List Value}(h:w.ownsRow base e size v n xs)(hb:base'<=base):w.ownsRow base' e size v n xs:=by
 refine⟨h.1,?_⟩
 rcases h.2 with h1 | ⟨g,cap,cur,hv,hg,r⟩
 ·exact .inl h1
 ·exact .inr ⟨g,cap,cur,hv,by omega,r⟩
theorem kC {S:List Nat}{w w':World}{base:Nat}{e:TypeId}{size:Nat}{v:Value}{n:Nat}{xs:List Value}(h:w.ownsRow base e size v n xs)(hf:Fr S w w')(hv:∀g,v.ownBlock=some g->g ∉ S):w'.ownsRow base e size v n xs:=by
 refine⟨h.1,?_⟩
 rcases h.2 with h1 | ⟨g,cap,cur,rfl,hg,hh,r⟩
 ·exact .inl h1
 ·exact .inr ⟨g,cap,cur,rfl,hg,(hf.block g (aC.1 hh).1 (hv g rfl)).trans hh,r⟩
theorem iM {w w':World}{base:Nat}{e:TypeId}{size:Nat}{v:Value}{n:Nat}{xs:List Value}(h:w.ownsRow base e size v n xs)(hf:Fr [] w w'):w'.ownsRow base e size v n xs:=kC h hf (fun _ _=>aj)
theorem Cd {S:List Nat}{w w':World}{base:Nat}{e:TypeId}{size:Nat}{v:Value}{n:Nat}{xs:List Value}(h:w.ownsRow base e size v n xs)(hf:Fr S w w')(hS:∀k∈S,k<base):w'.ownsRow base e size v n xs :=
 kC h hf (fun g hg hm=>by have:=(h.lt g hg).1;have:=hS g hm;omega)
theorem Fr.grown {S:List Nat}{w w1 w':World}{row:Option Nat}(h:Fr S w w1)(hg:w1.grownBy w' row)(hr:∀k,row=some k->w.heap.size<=k):Fr S w w' :=
 ⟨hg.os.trans h.os,hg.tape.trans h.tape,hg.output.trans h.output,aK h.size hg.size,fun k hk hs=>(hg.block k (aM hk h.size) (fun e=>by have:=hr k e.symm;omega)).trans (h.block k hk hs)⟩
theorem jP {w w':World}{row:Option Nat}{base:Nat}{e:TypeId}{size:Nat}{v:Value}{n:Nat}{xs:List Value}(h:w.ownsRow base e size v n xs)(hg:w.grownBy w' row)(hne:∀g,v.ownBlock=some g->some g≠row):w'.ownsRow base e size v n xs:=by
 refine⟨h.1,?_⟩
 rcases h.2 with h1 | ⟨g,cap,cur,rfl,hgb,hh,r⟩
 ·exact .inl h1
 ·exact .inr ⟨g,cap,cur,rfl,hgb,(hg.block g (aC.1 hh).1 (hne g rfl)).trans hh,r⟩
theorem info3:(Tryz.prog.info? 3).map (fun i=>(i.zero,i.size,i.bytes))=some (some (.int .i64 0),1,8):=by kernel_rfl
theorem one_cell (x:Int):∀u∈[Value.int .i64 x],u.oneCell'=true:=by
 intro u hu;rw[ak]at hu;subst hu;rfl
theorem IK (w:World)(cs:Array Value)(t:TypeId):∀j u,cs.toList[j]?=some u->(w.alloc (.cells cs t)).cell? ((⟨w.heap.size,0,none⟩:Addr).add j)=some u:=by
 intro j u hj;rw[Addr.add_lit,dL,fX _ _ _ _ rfl];simpa using hj
theorem kM (w:World)(cs:Array Value)(t:TypeId)(b:Nat)(hb:b=w.heap.size):∀j u,cs.toList[j]?=some u->(w.alloc (.cells cs t)).cell? ((⟨b,0,none⟩:Addr).add j)=some u:=by
 subst hb;exact IK w cs t
def jk (l:List Nat):List Value:=l.map fun x=>.int .i64 (x:Nat)
theorem rE (l:List Nat):(jk l).length=l.length:=by simp[jk]
theorem sM (l:List Nat)(x:Nat):jk l++[.int .i64 (x:Nat)]=jk (l++[x]):=by simp[jk]
theorem IL (l:List Nat)(j:Nat):(jk l).take (j * 1)=jk (l.take j):=by simp[jk]
theorem o_ {l:List Nat}{j:Nat}(h:j<l.length):(jk l)[j]?=some (.int .i64 (iP l j:Nat)):=by
 rw[jk,cA,aA h];simp[iP,aA h]
theorem nF {w:World}{B:Nat}{n g cap:Nat}{l:List Nat}(h:w.ownsRow B 3 1 (.slice (some ⟨g,0,none⟩) n cap) n (jk l))(hl:l.length=n):EO w g n l:=by
 intro i hi;rw[h.cellAt i (by omega),o_ (by omega)]
theorem PS.drew {w:World}{q:PH}{C L:List Int}{G:List Bool}(s:PS w q C L G):PS w.drew q C L G:=s.oN (Fr.refl [] w).drew
theorem PS.drewN {w:World}{q:PH}{C L:List Int}{G:List Bool}(s:PS w q C L G)(n:Nat):PS (w.drewN n) q C L G:=s.oN ((Fr.refl [] w).drewN n)
structure IS (w:World)(q:PH)(bI:Nat)(I:List Nat):Prop where
 r:EO w bI I.length I
 lt:∀k,k<I.length->iP I k<q.n
 ne:bI≠q.bC/\bI≠q.bL/\bI≠q.bG
 sm:I.length<=1000000
theorem IS.fr {S:List Nat}{w w':World}{q:PH}{bI:Nat}{I:List Nat}(s:IS w q bI I)(hf:Fr S w w')(hb:bI ∉ S):IS w' q bI I:=⟨s.r.fr hf hb,s.lt,s.ne,s.sm⟩
theorem cell_far (w:World)(b i:Nat)(v:Value)(c j:Nat)(h:b≠c):(w.setCell ⟨b,i,none⟩ v).cell? ⟨c,j,none⟩=w.cell? ⟨c,j,none⟩ :=
 gM (a:=⟨c,j,none⟩) (fP _ _ _ _ (fun e=>h e.symm))
def O0 (wr:World)(b bI m cI:Nat)(own kE qW:Int):Prop:=∀j v,(#[Value.slice (some ⟨bI,0,none⟩) m cI,.int .i64 own,.int .i64 kE,.int .i64 qW]:Array Value)[j]?=some v->wr.cell? ⟨b,j,none⟩=some v
theorem O0.fr {S:List Nat}{w w':World}{b bI m cI:Nat}{own kE qW:Int}(h:O0 w b bI m cI own kE qW)(hf:Fr S w w')(hb:b ∉ S):O0 w' b bI m cI own kE qW:=fun j v hv=>hf.cell (h j v hv) hb
theorem EP (C:List Int)(i:Nat)(a b:Int):(C.set i a).set i b=C.set i b:=by simp
theorem s_ (S:List Nat)(w w':World)(h1:w'.os=w.os)(h2:w'.tape=w.tape)(h3:w'.output=w.output)(h4:w'.heap=w.heap):Fr S w w':=⟨h1,h2,h3,by rw[h4];exact au _,fun _ _ _=>by rw[h4]⟩
end Go.Proofs.YtnakejhohdbfdacGreatDoor
namespace Go.Proofs.YtnakejhohdbfdacGreatDoor.Lay
open j9
theorem Tl (l:List Nat)(i j:Nat)(hij:i<=j)(hj:j<=l.length)(k:Nat):iP (yM l i j) k=if i<=k/\k<j then iP l (i+j - 1 - k)else iP l k:=by
 unfold yM iP;by_cases h1:k<i
 ·rw[ay (by omega),dF,aJ (by rw[bH];omega),dA h1]
 ·have hl1:(l.take i).length=i:=by rw[bH];omega
  have hl2:((l.take j).drop i).reverse.length=j - i:=by rw[eH,cJ,bH];omega
  by_cases h2:k<j
  ·rw[aE (by omega),dF,aI (by omega),hl1,aJ (by omega),List.getElem?_reverse (by rw[cJ,bH];omega),cJ,bH,dG,dA (by omega)]
   congr 2;omega
  ·rw[ay (by omega),aI (by rw[aD];omega),aD,hl1,hl2,dG]
   congr 2;omega
def mA (V:Nat->Int):Nat->Int
 | 0=>0
 | k+1=>max (mA V k) (V k)
theorem Ce (V:Nat->Int)(M:Int)(hM:0<=M)(h:∀k,V k<=M):∀k,0<=mA V k/\mA V k<=M
 | 0=>⟨eD _,hM⟩
 | k+1=>by have:=Ce V M hM h k;have:=h k;rw[mA];omega
theorem F7 (V:Nat->Int):∀k i,i<k->V i<=mA V k
 | 0,i,h=>by omega
 | k+1,i,h=>by
   rw[mA]
   rcases aH (aP h)with h1 | h1
   ·have:=F7 V k i h1;omega
   ·subst h1;omega
def nY (V:Nat->Int)(n:Nat):List Nat:=yL V 1 (mA V n).toNat (List.range n)
theorem uP (V:Nat->Int)(n:Nat):(nY V n).Perm (List.range n):=BH V 1 _ _
theorem rH (V:Nat->Int)(n:Nat):(nY V n).length=n:=by rw[(uP V n).length_eq,List.length_range]
theorem A5 (V:Nat->Int)(n:Nat):∀x∈nY V n,x<n:=fun _ hx=>cE.1 ((uP V n).mem_iff.1 hx)
theorem qC {l:List Nat}{k:Nat}(h:k<l.length):iP l k∈l:=by rw[iP,aA h];exact bB _
end Go.Proofs.YtnakejhohdbfdacGreatDoor.Lay
namespace Go.Proofs.YtnakejhohdbfdacGreatDoor
open Go.RowKit j9 Lay
theorem LQ (l:List Nat)(a x:Nat):(jk l).set a (.int .i64 (x:Nat))=jk (l.set a x):=by simp[jk,List.map_set]
theorem tP (l:List Int)(x:Int):iS l++[.int .i64 x]=iS (l++[x]):=by simp[iS]
structure Ln where
 f:Int
 t:Int
 o:List Nat
 x:List Int
theorem k_ {l:List Int}{j:Nat}(h:j<l.length):(iS l)[j]?=some (.int .i64 (nth l j)):=by
 rw[iS,cA,aA h];simp[nth,aA h]
theorem VX:(Tryz.prog.info? 2).map (fun i=>(i.zero,i.size,i.bytes))=some (some (.int .i64 0),1,8):=by kernel_rfl
theorem O1:(Tryz.prog.info? 69).map (fun i=>(i.zero,i.size,i.bytes))=some (some (.agg #[.int .i64 0,.int .i64 0,.slice none 0 0,.slice none 0 0]),4,64):=by kernel_rfl
theorem iG {w:World}{b:Nat}{cs:Array Value}{t:TypeId}(h:w.heap[b]?=some (.cells cs t (0,0))){i:Nat}{v:Value}(hv:cs[i]?=some v):w.cell? ⟨b,i,none⟩=some v:=by
 rw[fI w b i _ t (0,0) h];exact hv
theorem iH {w:World}{b:Nat}{cs:Array Value}{t:TypeId}(h:w.heap[b]?=some (.cells cs t (0,0)))(i:Nat):w.frozen? ⟨b,i,none⟩=false:=fT w b i _ t h
theorem iO {w:World}{b:Nat}{o:Obj}(h:w.heap[b]?=some o):b<w.heap.size:=(aC.1 h).1
theorem iJ {S:List Nat}{w w':World}{b:Nat}{o:Obj}(h:w.heap[b]?=some o)(hf:Fr S w w')(hb:b ∉ S):w'.heap[b]?=some o:=(hf.block b (iO h) hb).trans h
theorem iL (w:World)(o:Obj):(w.alloc o).heap[w.heap.size]?=some o:=gQ w o
theorem iI {w:World}{b:Nat}{cs:Array Value}{t:TypeId}(h:w.heap[b]?=some (.cells cs t (0,0)))(i:Nat)(v:Value):(w.setCell ⟨b,i,none⟩ v).heap[b]?=some (.cells (cs.setIfInBounds i v) t (0,0)):=fU w b i cs t v h
theorem Cf {P:Program}{ops:Array Oper}{o:Oper}{a:Act}{w:World}{K:Act->World->Prop}{Q:Exit->Act->World->Prop}{X:Prop}
 (hg:o.guard=none) (s x:Operand) (t:TypeId) (hop:o.op=Op.call { callee:=Callee.builtin Builtin.append,args:=#[s,x],argTypes:=#[t,t] })
 (base:Nat) (e:TypeId) (i:TypeInfo) (z:Value) (size bytes:Nat) (h1:P.underlying t=some (.slice e)) (h2:P.info? e=some i) (h3:i.zero=some z) (h4:i.size=size) (h5:i.bytes=bytes) (h6:z.cells.size=size) (h7:0<size)
 (v:Value) (n:Nat) (xs:List Value) (hs:a.eval s=v) (hown:w.ownsRow base e size v n xs)
 (ad:Addr) (m c:Nat) (news:List Value) (hx:a.eval x=.slice (some ad) m c) (hn:news.length=m * size) (hc:∀j u,news[j]?=some u->w.cell? (ad.add j)=some u) (h1c:∀u∈news,u.oneCell'=true)
 (b1:n+m<=maxLen) (b2:(n+m) * bytes<=140737488355328) (b3:base<=w.heap.size)
 (hK:∀v' w',w'.ownsRow base e size v' (n+m) (xs++news)->w.grownBy w' v.ownBlock->K (a.put o.dst v') w') :
 if Region.wanted o (yielded ops a.tmps)=true then Oper.wp P o a w K Q else X:=by
 have hw:Region.wanted o (yielded ops a.tmps)=true:=by simp[Region.wanted,hg]
 rw[aE hw];exact wp_append_own w s x t hop base e i z size bytes h1 h2 h3 h4 h5 h6 h7 v n xs hs hown ad m c news hx hn hc h1c b1 b2 b3 (fun v' w' k2 k3 _=>hK v' w' k2 k3)
theorem AB {P:Program}(w:World)(base:Nat)(t ty e:TypeId)(i:TypeInfo)(z:Value)(size bytes:Nat)(ht:P.underlying t=some (.slice e))(hi:P.info? e=some i)(hz:i.zero=some z)(hsize:i.size=size)(hby:i.bytes=bytes)(hzs:z.cells.size=size)(hsz:0<size)
 (g n cap:Nat) (xs:List Value) (hown:w.ownsRow base e size (.slice (some ⟨g,0,none⟩) n cap) n xs)
 (a:Addr) (m c:Nat) (news:List Value) (hl:news.length=m * size) (hnews:∀j u,news[j]?=some u->w.cell? (a.add j)=some u) (h1:∀u∈news,u.oneCell'=true) (h63:n+m<=maxLen) (hbytes:(n+m) * bytes<=140737488355328) (hbase:base<=w.heap.size) :
 ∃v' w',(Builtin.append_ #[t,t] ty #[.slice (some ⟨g,0,none⟩) n cap,.slice (some a) m c]).run P w=.ok v' w'/\w'.ownsRow base e size v' (n+m) (xs++news)/\w.grownBy w' (some g)/\∀j u,xs[j]?=some u->w'.cell? ⟨g,j,none⟩=some u:=by
 obtain⟨v',w',hr,h2,h3,_,_⟩:=run_append_own_at (P:=P) w base t ty e i z size bytes ht hi hz hsize hby hzs hsz _ n xs hown a m c news hl hnews h1 h63 hbytes hbase;refine⟨v',w',hr,h2,h3,fun j u hj=>?_⟩;have hjn:j<n * size:=by
  have:=(aY.1 hj).1;rw[hown.1]at this;exact this
 have hold:w.cell? ⟨g,j,none⟩=some u:=by rw[hown.cellAt j hjn];exact hj
 subst hsize;subst hby
 rcases hown.2 with⟨h0,_⟩ | ⟨g',cap',cur,hv,hbg,hg,hnc,hcm,hcs,htake⟩
 ·cases h0
 ·cases hv
  by_cases hroom:n+m<=cap
  ·have hfit:n * i.size+news.length<=cur.size:=by rw[hl,hcs,<-Nat.add_mul];exact Nat.mul_le_mul_right _ hroom
   have hr2:=run_append_room (P:=P) w t ty e i ht hi g n cap cur hg a m c news hl hnews h1 hroom hfit;rw[hr]at hr2;cases hr2;have h5:=h2.cellAt j (aM hjn (Nat.mul_le_mul_right _ (Nat.le_add_right n m)));rw[h5,aJ (by rw[hown.1];exact hjn)];exact hj
  ·have hsmall:n+m<=9223372036854775807:=by simp only[maxLen]at h63;omega
   have holds:∀j u,xs[j]?=some u->w.cell? ((⟨g,0,none⟩:Addr).add j)=some u:=hown.cells (g:=g) rfl;have hr2:=run_append_grow (P:=P) w t ty e i z ht hi hz ⟨g,0,none⟩ n cap xs hown.1 holds a m c news hl hnews (by omega) (by omega) (growslice_fits (by omega) hbytes);rw[hr]at hr2;cases hr2;exact((gM (a:=⟨g,j,none⟩) (heap_alloc_old w.drew _ (fC _ _ hold))).trans hold)
theorem LR {P:Program}{ops:Array Oper}{o:Oper}{a:Act}{w:World}{K:Act->World->Prop}{Q:Exit->Act->World->Prop}{X:Prop}
 (hg:o.guard=none) (s x:Operand) (t:TypeId) (hop:o.op=Op.call { callee:=Callee.builtin Builtin.append,args:=#[s,x],argTypes:=#[t,t] })
 (base:Nat) (e:TypeId) (i:TypeInfo) (z:Value) (size bytes:Nat) (h1:P.underlying t=some (.slice e)) (h2:P.info? e=some i) (h3:i.zero=some z) (h4:i.size=size) (h5:i.bytes=bytes) (h6:z.cells.size=size) (h7:0<size)
 (g n cap:Nat) (xs:List Value) (hs:a.eval s=.slice (some ⟨g,0,none⟩) n cap) (hown:w.ownsRow base e size (.slice (some ⟨g,0,none⟩) n cap) n xs)
 (ad:Addr) (m c:Nat) (news:List Value) (hx:a.eval x=.slice (some ad) m c) (hn:news.length=m * size) (hc:∀j u,news[j]?=some u->w.cell? (ad.add j)=some u) (h1c:∀u∈news,u.oneCell'=true)
 (b1:n+m<=maxLen) (b2:(n+m) * bytes<=140737488355328) (b3:base<=w.heap.size)
 (hK:∀v' w',w'.ownsRow base e size v' (n+m) (xs++news)->w.grownBy w' (some g)->(∀j u,xs[j]?=some u->w'.cell? ⟨g,j,none⟩=some u)->K (a.put o.dst v') w') :
 if Region.wanted o (yielded ops a.tmps)=true then Oper.wp P o a w K Q else X:=by
 have hw:Region.wanted o (yielded ops a.tmps)=true:=by simp[Region.wanted,hg]
 rw[aE hw];obtain⟨v',w',hr,k2,k3,k5⟩:=AB (P:=P) w base t o.type e i z size bytes h1 h2 h3 h4 h5 h6 h7 g n cap xs hown ad m c news hn hc h1c b1 b2 b3;unfold Oper.wp execOp;simp only[hop,resolve,invoke,builtin,Sem.run_bind,Sem.run_pure,Result.andThen_ok,List.map_toArray,List.map_cons,List.map_nil,hs,hx,hr];exact hK _ _ k2 k3 k5
def O2 (w:World)(g o n:Nat)(l:List Int):Prop:=∀i,i<n->w.cell? ⟨g,o+i,none⟩=some (.int .i64 (nth l i))
theorem O2.fr {S:List Nat}{w w':World}{g o n:Nat}{l:List Int}(h:O2 w g o n l)(hf:Fr S w w')(hg:g ∉ S):O2 w' g o n l:=fun i hi=>hf.cell (h i hi) hg
def Xb (w:World)(g n:Nat)(P:Nat->Nat):Prop:=∀i,i<n->w.cell? ⟨g,i * 3+1,none⟩=some (.int .i64 (P i:Nat))
theorem Xb.fr {S:List Nat}{w w':World}{g n:Nat}{P:Nat->Nat}(h:Xb w g n P)(hf:Fr S w w')(hg:g ∉ S):Xb w' g n P:=fun i hi=>hf.cell (h i hi) hg
def mU (w:World)(B U:Nat)(hs:List Value)(Ls:List Ln):Prop:=∀j l,Ls[j]?=some l->∃vO vX,hs[j * 4]?=some (.int .i64 l.f)/\hs[j * 4+1]?=some (.int .i64 l.t)/\hs[j * 4+2]?=some vO/\hs[j * 4+3]?=some vX/\w.ownsRow B 3 1 vO l.o.length (jk l.o)/\w.ownsRow B 2 1 vX l.x.length (iS l.x)/\(∀g,vO.ownBlock=some g->g<U)/\∀g,vX.ownBlock=some g->g<U
theorem mU.fr {w w':World}{B U:Nat}{hs:List Value}{Ls:List Ln}(h:mU w B U hs Ls)(hf:∀e v n xs,(e=3\/e=2)->(∀g,v.ownBlock=some g->g<U)->w.ownsRow B e 1 v n xs->w'.ownsRow B e 1 v n xs):mU w' B U hs Ls:=by
 intro j l hj;obtain⟨vO,vX,a1,a2,a3,a4,a5,a6,a7,a8⟩:=h j l hj;exact⟨vO,vX,a1,a2,a3,a4,hf 3 _ _ _ (.inl rfl) a7 a5,hf 2 _ _ _ (.inr rfl) a8 a6,a7,a8⟩
theorem mU.mono {w:World}{B U U':Nat}{hs:List Value}{Ls:List Ln}(h:mU w B U hs Ls)(hU:U<=U'):mU w B U' hs Ls:=by
 intro j l hj;obtain⟨vO,vX,a1,a2,a3,a4,a5,a6,a7,a8⟩:=h j l hj;exact⟨vO,vX,a1,a2,a3,a4,a5,a6,fun g hg=>aM (a7 g hg) hU,fun g hg=>aM (a8 g hg) hU⟩
theorem mE {w w':World}{B e size n:Nat}{v:Value}{xs:List Value}(h:w.ownsRow B e size v n xs){b:Option Nat}(hg:w.grownBy w' b)(hb:∀g,b=some g->∃cs t f,w.heap[g]?=some (.cells cs t f)/\t≠e):w'.ownsRow B e size v n xs:=by
 refine jP h hg (fun g hv e=>?_);obtain⟨cs,t,f,h1,h2⟩:=hb g e.symm
 rcases h.2 with⟨rfl,_⟩ | ⟨g',cap,cur,rfl,_,hg',_⟩
 ·cases hv
 ·simp only[Value.ownBlock,eV]at hv
  subst hv;rw[h1]at hg';cases hg';exact h2 rfl
theorem pW {w:World}{B e size n g:Nat}{v:Value}{xs:List Value}(h:w.ownsRow B e size v n xs)(hv:v.ownBlock=some g):∃cs t f,w.heap[g]?=some (.cells cs t f)/\t=e:=by
 rcases h.2 with⟨rfl,_⟩ | ⟨g',cap,cur,rfl,_,hg',_⟩
 ·cases hv
 ·simp only[Value.ownBlock,eV]at hv
  subst hv;exact⟨_,_,_,hg',rfl⟩
theorem rI {w:World}{b i:Nat}{v:Value}:w.grownBy (w.setCell ⟨b,i,none⟩ v) (some b) :=
 ⟨rfl,rfl,rfl,by simp,fun k _ hk=>gF w ⟨b,i,none⟩ k v (fun e=>hk (by simp[e]))⟩
open pS
end Go.Proofs.YtnakejhohdbfdacGreatDoor
namespace Go.Proofs.YtnakejhohdbfdacGreatDoor.Lay
open Go Dec pS j9
def Zu (W:List Int)(n:Nat):Bool:=(List.range n).all fun i=>decide (0<=nth W i) && decide (nth W i<=1073741824)
def nX (B:List Int)(z:Int)(Br:List Int):Nat->Bool
 | 0=>true
 | k+1=>nX B z Br k && (decide ((if k=0 then 0 else nth Br (k - 1))<nth Br k) && (decide (nth Br k<z) && B.contains (nth Br k)))
def early (K:List Int)(P:Nat->Nat)(e:Int):Nat->Bool
 | 0=>false
 | k+1=>early K P e k || (nth K k == 10 && decide (((P k:Nat):Int)<e))
def Tm (s:ByteArray)(n:Nat)(K:List Int)(base:Int)(W Br:List Int):Int :=
 if 400<s.size then 1 else if base<0\/2<base then 2 else if W.length≠n\/Zu W n=false then 3
 else if nX (bnd s n) s.size Br Br.length=false then 4
 else if early K (pos s) (nth (bnd s n) ((bnd s n).length - 2)) n=true then 5 else 0
theorem O3 {W:List Int}{n:Nat}(h:Zu W n=true){i:Nat}(hi:i<n):0<=nth W i/\nth W i<=1073741824:=by
 have:=List.all_eq_true.1 h i (cE.2 hi);simpa using this
theorem Tn {W:List Int}{n:Nat}(h:∀i,i<n->0<=nth W i/\nth W i<=1073741824):Zu W n=true:=by
 refine List.all_eq_true.2 fun i hi=>?_
 have:=h i (cE.1 hi);simp[this]
theorem uQ {B:List Int}{z:Int}{Br:List Int}:∀ {k:Nat},nX B z Br k=true->∀j,j<k->(if j=0 then 0 else nth Br (j - 1))<nth Br j/\nth Br j<z/\B.contains (nth Br j)=true
 | 0,_,j,hj=>by omega
 | k+1,h,j,hj=>by
   rw[nX,dK,dK,dK,decide_eq_true_eq,decide_eq_true_eq]at h
   rcases aH (aP hj)with h1 | h1
   ·exact uQ h.1 j h1
   ·rw[h1];exact h.2
end Go.Proofs.YtnakejhohdbfdacGreatDoor.Lay

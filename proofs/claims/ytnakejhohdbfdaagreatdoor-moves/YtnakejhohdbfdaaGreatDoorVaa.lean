import Derived.Test.YtnakejhohdbfdaaGreatDoorRows
import Derived.WalkKit
import Derived.WalkSpells
import Derived.Test.YtnakejhohdbfdaaGreatDoorV0k
set_option maxHeartbeats 4000000
set_option maxRecDepth 100000
namespace Go.Proofs.YtnakejhohdbfdaaGreatDoor.ZB
open Go.Proofs.Tryz
def pU (k:Int):Bool:=k == 1 || k == 2 || k == 3
def sj (a b:Int):Bool :=
 if a == 9 then b == 9 || b == 10 || b == 12 || b == 13
 else if a == 12 || a == 10 then b == 10 || b == 11
 else if a == 13 || a == 11 then b == 11
 else false
def D4 (p k:Int):Int:=if k == 14 then 1 else if k == 4 && p == 1 then 1 else if k == 5 && p == 1 then 2 else 0
def Tv (o:Bool)(k:Int):Bool:=k == 6 && !o
def wh (l p:Int)(o:Bool)(n:Int):Bool :=
 if l == 1 && n == 2 then false
 else if pU l || pU n then true
 else if sj l n then false
 else if n == 4 || n == 5 || n == 8 then false
 else if l == 7 then false
 else if p == 2 && n == 14 then false
 else if o && n == 6 then false
 else true
def lastOf:List Int->Int
 | []=>0
 | k :: _=>k
def pV:List Int->Int
 | []=>0
 | k :: l=>D4 (pV l) k
def jm:List Int->Bool
 | []=>false
 | k :: l=>Tv (jm l) k
def j7:List Int->Bool
 | []=>false
 | k :: l=>if k == 4 then j7 l else k == 14
def flags:List Int->Nat
 | []=>0
 | k :: l=>if k == 6 then flags l+1 else 0
def tL (a:Int)(pre:List Int)(b:Int):Bool :=
 if a == 1 && b == 2 then true
 else if pU a || pU b then false
 else if sj a b then true
 else if b == 4 || b == 5 || b == 8 || a == 7 then true
 else if a == 5 && b == 14 then j7 pre
 else if a == 6 && b == 6 then flags (a :: pre) % 2 == 1
 else false
def pref (f:Nat->Int):Nat->List Int
 | 0=>[]
 | k+1=>f k :: pref f k
theorem Bj:∀l:List Int,(pV l == 1)=j7 l
 | []=>rfl
 | k :: l=>by
   have ih:=Bj l;unfold pV D4 j7;rw[ih];by_cases h4:k=4
   ·subst h4;cases j7 l <;> rfl
   ·by_cases Z_:k=14
    ·subst Z_;rfl
    ·by_cases h5:k=5
     ·subst h5;cases j7 l <;> rfl
     ·simp[h4,Z_,h5]
theorem IG (k:Int)(l:List Int):(pV (k :: l) == 2)=(k == 5 && j7 l):=by
 have ih:=Bj l;unfold pV D4;rw[ih];by_cases Z_:k=14
 ·subst Z_;cases j7 l <;> rfl
 ·by_cases h4:k=4
  ·subst h4;cases j7 l <;> rfl
  ·by_cases h5:k=5
   ·subst h5;cases j7 l <;> rfl
   ·simp[h4,Z_,h5]
theorem zP:∀l:List Int,jm l=(flags l % 2 == 1)
 | []=>rfl
 | k :: l=>by
   have ih:=zP l;unfold jm Tv flags;rw[ih];by_cases h:k=6
   ·subst h
    rcases Nat.mod_two_eq_zero_or_one (flags l)with h0 | h0
    ·have:(flags l+1) % 2=1:=by omega
     simp[h0,this]
    ·have:(flags l+1) % 2=0:=by omega
     simp[h0,this]
   ·simp[h]
theorem zQ {a:Int}{l:List Int}(h:a≠6):flags (a :: l)=0:=by unfold flags;simp[h]
theorem EZ (a:Int)(pre:List Int)(b:Int):wh a (pV (a :: pre)) (jm (a :: pre)) b=!tL a pre b:=by
 unfold wh tL;rw[IG,zP];by_cases c1:(a == 1 && b == 2)=true
 ·simp[c1]
 ·rw[au c1,au c1]
  by_cases c2:(pU a || pU b)=true
  ·simp[c2]
  ·rw[au c2,au c2]
   by_cases c3:sj a b=true
   ·simp[c3]
   ·rw[au c3,au c3]
    by_cases c4:(b == 4 || b == 5 || b == 8)=true
    ·have:(b == 4 || b == 5 || b == 8 || a == 7)=true:=by rw[c4];rfl
     rw[ay c4,ay this];rfl
    ·rw[au c4]
     by_cases c5:a=7
     ·have:(b == 4 || b == 5 || b == 8 || a == 7)=true:=by rw[c5];simp
      rw[ay (by rw[c5];rfl),ay this];rfl
     ·have h7:(a == 7)=false:=aF.2 c5
      have:¬(b == 4 || b == 5 || b == 8 || a == 7)=true:=by
       rw[h7,Bool.or_false];exact c4
      rw[au (by rw[h7];exact aE),au this];by_cases a5:a=5
      ·by_cases b14:b=14
       ·subst a5 b14
        cases j7 pre <;> rfl
       ·have h1:(b == 14)=false:=aF.2 b14
        have h6:flags (a :: pre)=0:=zQ (by omega);have e6:(a == 6)=false:=aF.2 (by omega);simp[h1,h6,e6]
      ·have h5:(a == 5)=false:=aF.2 a5
       by_cases a6:a=6
       ·subst a6
        by_cases b6:b=6
        ·subst b6;cases (flags (6 :: pre) % 2 == 1) <;> rfl
        ·have h6:(b == 6)=false:=aF.2 b6
         simp[h6]
       ·have e6:(a == 6)=false:=aF.2 a6
        have h6:flags (a :: pre)=0:=zQ a6;simp[h5,e6,h6]
end Go.Proofs.YtnakejhohdbfdaaGreatDoor.ZB
namespace Go.Proofs.YtnakejhohdbfdaaGreatDoor.mE
open Go.RowKit ZB Go.Proofs.Tryz
theorem nF {a b:Bool}(h:a=b):Ending.returned (.bool a)=.returned (.bool b):=by rw[h]
theorem pE {a b:Int}(h:a=b):Ending.returned (.int .i64 a)=.returned (.int .i64 b):=by rw[h]
theorem Oy (a:Int)(w:World):Calls prog 245 #[.int .i64 a] w fun e w'=>e=.returned (.bool (pU a))/\w'=w:=by
 go_enter func245,ntmps245;go_wp2
 all_goals go_ret
 all_goals exact⟨nF (by simp[pU, *]),rfl⟩
theorem Oz (a b:Int)(w:World):Calls prog 246 #[.int .i64 a,.int .i64 b] w fun e w'=>e=.returned (.bool (sj a b))/\w'=w:=by
 go_enter func246,ntmps246;go_wp2
 all_goals go_ret
 all_goals exact⟨nF (by simp[sj, *]),rfl⟩
theorem OA (p a:Int)(w:World):Calls prog 247 #[.int .i64 p,.int .i64 a] w fun e w'=>e=.returned (.int .i64 (D4 p a))/\w'=w:=by
 go_enter func247,ntmps247;go_wp2
 all_goals go_ret
 all_goals exact⟨pE (by simp[D4, *]),rfl⟩
theorem OB (b:Nat)(l p:Int)(o:Bool)(n:Int)(w:World)(hl:w.cell? ⟨b,0,none⟩=some (.int .i64 l))(hp:w.cell? ⟨b,1,none⟩=some (.int .i64 p))(ho:w.cell? ⟨b,2,none⟩=some (.bool o)) :
 Calls prog 224 #[.pointer (some ⟨b,0,none⟩),.int .i64 n] w fun e w'=>e=.returned (.bool (wh l p o n))/\w'=w:=by
 go_enter func224,ntmps224
 go_wp2_with (first
  | (go_at_call 245;refine(Oy _ _).mono ?_;rintro e w' ⟨rfl,rfl⟩)
  | (go_at_call 246;refine(Oz _ _ _).mono ?_;rintro e w' ⟨rfl,rfl⟩))
 all_goals go_ret
 all_goals refine⟨nF ?_,rfl⟩
 all_goals clear hl hp ho
 all_goals first | (simp[wh, *];done) | (simp[wh, *];rfl) | (simp_all[wh];done)
theorem II (w:World)(b:Nat)(x y z x' y' z':Value)(hh:w.heap[b]?=some (.cells #[x,y,z] 307 (0,0))) :
 (((w.setCell ⟨b,0,none⟩ x').setCell ⟨b,1,none⟩ y').setCell ⟨b,2,none⟩ z').heap[b]?=some (.cells #[x',y',z'] 307 (0,0)):=by
 rw[fA _ b 2 _ 307 z' (fA _ b 1 _ 307 y' (fA _ b 0 _ 307 x' hh))];rfl
theorem E0 (w:World)(b:Nat)(x' y' z':Value):w.grownBy (((w.setCell ⟨b,0,none⟩ x').setCell ⟨b,1,none⟩ y').setCell ⟨b,2,none⟩ z') (some b) :=
 ⟨rfl,rfl,rfl,by simp,fun k _ hk=>by
  have hne:k≠b:=fun e=>hk (by rw[e])
  rw[fK _ ⟨b,2,none⟩ k z' hne,fK _ ⟨b,1,none⟩ k y' hne,fK _ ⟨b,0,none⟩ k x' hne]⟩
theorem Bk (b:Nat)(l p:Int)(o:Bool)(n:Int)(w:World)(hh:w.heap[b]?=some (.cells #[.int .i64 l,.int .i64 p,.bool o] 307 (0,0))) :
 Calls prog 225 #[.pointer (some ⟨b,0,none⟩),.int .i64 n] w fun e w'=>e=.returned (.tuple #[])/\w'.heap[b]?=some (.cells #[.int .i64 n,.int .i64 (D4 p n),.bool (Tv o n)] 307 (0,0))/\w.grownBy w' (some b):=by
 have c0:w.cell? ⟨b,0,none⟩=some (.int .i64 l):=fu w b 0 _ _ _ hh;have c1:w.cell? ⟨b,1,none⟩=some (.int .i64 p):=fu w b 1 _ _ _ hh;have c2:w.cell? ⟨b,2,none⟩=some (.bool o):=fu w b 2 _ _ _ hh;have f0:w.frozen? ⟨b,0,none⟩=false:=fF w b 0 _ _ hh;have f1:w.frozen? ⟨b,1,none⟩=false:=fF w b 1 _ _ hh;have f2:w.frozen? ⟨b,2,none⟩=false:=fF w b 2 _ _ hh;have HH:Hid _:=hh;clear hh;go_enter func225,ntmps225;go_wp2_with (go_at_call 247;refine(OA _ _ _).mono ?_;rintro e w' ⟨rfl,rfl⟩)
 all_goals go_end0
 all_goals (refine⟨rfl,?_,E0 w b _ _ _⟩;rw[II w b _ _ _ _ _ _ HH.out])
 all_goals simp[Tv, *]
theorem IJ (a b:Int)(pre:List Int)(g n cap m:Nat)(w:World)(hm:m+1<n)(hn:n<=1000000)(ca:w.cell? ⟨g,m,none⟩=some (.int .i64 a))(cb:w.cell? ⟨g,m+1,none⟩=some (.int .i64 b))
 (h5:¬(a=5/\b=14)) (h6:¬(a=6/\b=6)) :
 Calls prog 112 #[.slice (some ⟨g,0,none⟩) n cap,.int .i64 ((m:Int)+1)] w fun e w'=>e=.returned (.bool (tL a pre b))/\w'=w:=by
 have hm1:(m:Int)+1<(n:Int):=by omega
 go_enter func112,ntmps112;go_wp2
 all_goals go_ret
 all_goals refine⟨nF ?_,rfl⟩
 all_goals clear ca cb
 all_goals first | (simp[tL,pU,sj, *];done) | (simp_all[tL,pU,sj];done) | (simp_all[tL,pU,sj];omega)
theorem Lj {p:Prop}(h:p):Hid p:=h
theorem par (c:Nat):((c:Int) % 2 == 1)=(c % 2 == 1):=by
 rw[Bool.eq_iff_iff];simp;omega
theorem Lk (f:Nat->Int)(k:Nat):pref f (k+1)=f k :: pref f k:=rfl
theorem Ll (f:Nat->Int)(g n cap m:Nat)(w:World)(hm:m+1<n)(hn:n<=1000000)(hc:∀j,j<n->w.cell? ⟨g,j,none⟩=some (.int .i64 (f j)))(ha:f m=5)(hb:f (m+1)=14) :
 Calls prog 112 #[.slice (some ⟨g,0,none⟩) n cap,.int .i64 ((m:Int)+1)] w fun e w'=>e=.returned (.bool (j7 (pref f m)))/\w'=w:=by
 have hm1:(m:Int)+1<(n:Int):=by omega
 have ca:=hc m (by omega);have cb:=hc (m+1) hm;rw[ha]at ca;rw[hb]at cb;have HC:=Lj hc;clear hc ha hb;generalize hv:j7 (pref f m)=v;have HV:=Lj hv;clear hv;go_enter func112,ntmps112;go_wp2;go_loop [8] (fun s8=>∃q:Nat,q<=m/\s8=.int .i64 ((q:Int) - 1)/\Hid (j7 (pref f q)=v)) (fun s8=>(intOf s8+1).toNat)
 case atStart=>exact⟨m,ak _,by go_num,HV⟩
 case round =>
  obtain⟨q,hq,rfl,HQ⟩:=hrel;cases q with
  | zero =>
    have E:v=false:=HQ.out.symm;subst E;go_wp2;go_ret;exact⟨rfl,rfl⟩
  | succ r =>
    have hr:=HC.out r (by omega);have IK:Hid ((if f r == 4 then j7 (pref f r)else f r == 14)=v):=HQ.out;have hrn:(r:Int)<(n:Int):=by omega
    generalize f r=x at hr IK;rw[show(((r+1:Nat):Int) - 1)=(r:Int) by omega];by_cases h4:x=4
    ·subst h4
     go_wp2;go_round
     case rel=>exact⟨r,by omega,by go_num,IK⟩
     case measure=>simp[intOf]
    ·have h4b:(x == 4)=false:=aF.2 h4
     have E:(x == 14)=v:=by have:=IK.out;rw[h4b]at this;exact this
     subst E;go_wp2;go_ret;exact⟨rfl,rfl⟩
theorem IL (f:Nat->Int)(g n cap m:Nat)(w:World)(hm:m+1<n)(hn:n<=1000000)(hc:∀j,j<n->w.cell? ⟨g,j,none⟩=some (.int .i64 (f j)))(ha:f m=6)(hb:f (m+1)=6) :
 Calls prog 112 #[.slice (some ⟨g,0,none⟩) n cap,.int .i64 ((m:Int)+1)] w fun e w'=>e=.returned (.bool (flags (pref f (m+1)) % 2 == 1))/\w'=w:=by
 have hm1:(m:Int)+1<(n:Int):=by omega
 have ca:=hc m (by omega);have cb:=hc (m+1) hm;rw[ha]at ca;rw[hb]at cb;have HC:=Lj hc;clear hc ha hb;generalize hv:flags (pref f (m+1))=v;have HV:=Lj hv;clear hv;go_enter func112,ntmps112;go_wp2;go_loop [9,10] (fun s9 s10=>∃c q:Nat,c+q<=m+1/\s9=.int .i64 c/\s10=.int .i64 ((q:Int) - 1)/\Hid (c+flags (pref f q)=v)) (fun _ s10=>(intOf s10+1).toNat)
 case atStart=>exact⟨0,m+1,by omega,rfl,by go_num,Lj (by rw[c_];exact HV.out)⟩
 case round =>
  obtain⟨c,q,hq,rfl,rfl,HQ⟩:=hrel;cases q with
  | zero =>
    have E:c=v:=HQ.out;subst E;go_wp2;go_ret;refine⟨nF ?_,rfl⟩;exact par c
  | succ r =>
    have hr:=HC.out r (by omega);have IK:Hid (c+(if f r == 6 then flags (pref f r)+1 else 0)=v):=HQ.out;have hrn:(r:Int)<(n:Int):=by omega
    generalize f r=x at hr IK;rw[show(((r+1:Nat):Int) - 1)=(r:Int) by omega];by_cases h6:x=6
    ·subst h6
     go_wp2;go_round
     case rel=>exact⟨c+1,r,by omega,by go_num,by go_num,Lj (by have:c+(flags (pref f r)+1)=v:=IK.out;omega)⟩
     case measure=>simp[intOf]
    ·have h6b:(x == 6)=false:=aF.2 h6
     have E:c=v:=by have:=IK.out;rw[h6b]at this;exact this
     subst E;go_wp2;go_ret;refine⟨nF ?_,rfl⟩;exact par c
theorem Bn (f:Nat->Int)(g n cap m:Nat)(w:World)(hm:m+1<n)(hn:n<=1000000)(hc:∀j,j<n->w.cell? ⟨g,j,none⟩=some (.int .i64 (f j))) :
 Calls prog 112 #[.slice (some ⟨g,0,none⟩) n cap,.int .i64 ((m:Int)+1)] w fun e w'=>e=.returned (.bool (tL (f m) (pref f m) (f (m+1))))/\w'=w:=by
 by_cases h5:f m=5/\f (m+1)=14
 ·have e:tL (f m) (pref f m) (f (m+1))=j7 (pref f m):=by rw[h5.1,h5.2];rfl
  rw[e];exact Ll f g n cap m w hm hn hc h5.1 h5.2
 ·by_cases h6:f m=6/\f (m+1)=6
  ·have e:tL (f m) (pref f m) (f (m+1))=(flags (pref f (m+1)) % 2 == 1):=by rw[Lk,h6.1,h6.2];rfl
   rw[e];exact IL f g n cap m w hm hn hc h6.1 h6.2
  ·exact IJ (f m) (f (m+1)) (pref f m) g n cap m w hm hn (hc m (by omega)) (hc (m+1) hm) h5 h6
end Go.Proofs.YtnakejhohdbfdaaGreatDoor.mE

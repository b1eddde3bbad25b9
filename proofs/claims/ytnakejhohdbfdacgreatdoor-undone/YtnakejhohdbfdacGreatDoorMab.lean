import Derived.Test.YtnakejhohdbfdacGreatDoorRows
import Derived.WalkKit
import Derived.WalkSpells
import Derived.Test.YtnakejhohdbfdacGreatDoorM0k
set_option maxHeartbeats 2000000
namespace Go.Proofs.YtnakejhohdbfdacGreatDoor.BA
open Go.Proofs.Tryz
def tE (k:Int):Bool:=k == 1 || k == 2 || k == 3
def wh (a b:Int):Bool :=
 if a == 9 then b == 9 || b == 10 || b == 12 || b == 13
 else if a == 12 || a == 10 then b == 10 || b == 11
 else if a == 13 || a == 11 then b == 11
 else false
def DM (p k:Int):Int:=if k == 14 then 1 else if k == 4 && p == 1 then 1 else if k == 5 && p == 1 then 2 else 0
def SY (o:Bool)(k:Int):Bool:=k == 6 && !o
def wo (l p:Int)(o:Bool)(n:Int):Bool :=
 if l == 1 && n == 2 then false
 else if tE l || tE n then true
 else if wh l n then false
 else if n == 4 || n == 5 || n == 8 then false
 else if l == 7 then false
 else if p == 2 && n == 14 then false
 else if o && n == 6 then false
 else true
def lastOf:List Int->Int
 | []=>0
 | k :: _=>k
def pZ:List Int->Int
 | []=>0
 | k :: l=>DM (pZ l) k
def j_:List Int->Bool
 | []=>false
 | k :: l=>SY (j_ l) k
def mH:List Int->Bool
 | []=>false
 | k :: l=>if k == 4 then mH l else k == 14
def flags:List Int->Nat
 | []=>0
 | k :: l=>if k == 6 then flags l+1 else 0
def N7 (a:Int)(pre:List Int)(b:Int):Bool :=
 if a == 1 && b == 2 then true
 else if tE a || tE b then false
 else if wh a b then true
 else if b == 4 || b == 5 || b == 8 || a == 7 then true
 else if a == 5 && b == 14 then mH pre
 else if a == 6 && b == 6 then flags (a :: pre) % 2 == 1
 else false
def pref (f:Nat->Int):Nat->List Int
 | 0=>[]
 | k+1=>f k :: pref f k
theorem BB:∀l:List Int,(pZ l == 1)=mH l
 | []=>rfl
 | k :: l=>by
   have ih:=BB l;unfold pZ DM mH;rw[ih];by_cases h4:k=4
   ·subst h4;cases mH l <;> rfl
   ·by_cases W5:k=14
    ·subst W5;rfl
    ·by_cases h5:k=5
     ·subst h5;cases mH l <;> rfl
     ·simp[h4,W5,h5]
theorem Ip (k:Int)(l:List Int):(pZ (k :: l) == 2)=(k == 5 && mH l):=by
 have ih:=BB l;unfold pZ DM;rw[ih];by_cases W5:k=14
 ·subst W5;cases mH l <;> rfl
 ·by_cases h4:k=4
  ·subst h4;cases mH l <;> rfl
  ·by_cases h5:k=5
   ·subst h5;cases mH l <;> rfl
   ·simp[h4,W5,h5]
theorem zN:∀l:List Int,j_ l=(flags l % 2 == 1)
 | []=>rfl
 | k :: l=>by
   have ih:=zN l;unfold j_ SY flags;rw[ih];by_cases h:k=6
   ·subst h
    rcases Nat.mod_two_eq_zero_or_one (flags l)with h0 | h0
    ·have:(flags l+1) % 2=1:=by omega
     simp[h0,this]
    ·have:(flags l+1) % 2=0:=by omega
     simp[h0,this]
   ·simp[h]
theorem zO {a:Int}{l:List Int}(h:a≠6):flags (a :: l)=0:=by unfold flags;simp[h]
theorem EA (a:Int)(pre:List Int)(b:Int):wo a (pZ (a :: pre)) (j_ (a :: pre)) b=!N7 a pre b:=by
 unfold wo N7;rw[Ip,zN];by_cases c1:(a == 1 && b == 2)=true
 ·simp[c1]
 ·rw[ay c1,ay c1]
  by_cases c2:(tE a || tE b)=true
  ·simp[c2]
  ·rw[ay c2,ay c2]
   by_cases c3:wh a b=true
   ·simp[c3]
   ·rw[ay c3,ay c3]
    by_cases c4:(b == 4 || b == 5 || b == 8)=true
    ·have:(b == 4 || b == 5 || b == 8 || a == 7)=true:=by rw[c4];rfl
     rw[aE c4,aE this];rfl
    ·rw[ay c4]
     by_cases c5:a=7
     ·have:(b == 4 || b == 5 || b == 8 || a == 7)=true:=by rw[c5];simp
      rw[aE (by rw[c5];rfl),aE this];rfl
     ·have h7:(a == 7)=false:=aQ.2 c5
      have:¬(b == 4 || b == 5 || b == 8 || a == 7)=true:=by
       rw[h7,Bool.or_false];exact c4
      rw[ay (by rw[h7];exact aG),ay this];by_cases a5:a=5
      ·by_cases b14:b=14
       ·subst a5 b14
        cases mH pre <;> rfl
       ·have h1:(b == 14)=false:=aQ.2 b14
        have h6:flags (a :: pre)=0:=zO (by omega);have e6:(a == 6)=false:=aQ.2 (by omega);simp[h1,h6,e6]
      ·have h5:(a == 5)=false:=aQ.2 a5
       by_cases a6:a=6
       ·subst a6
        by_cases b6:b=6
        ·subst b6;cases (flags (6 :: pre) % 2 == 1) <;> rfl
        ·have h6:(b == 6)=false:=aQ.2 b6
         simp[h6]
       ·have e6:(a == 6)=false:=aQ.2 a6
        have h6:flags (a :: pre)=0:=zO a6;simp[h5,e6,h6]
end Go.Proofs.YtnakejhohdbfdacGreatDoor.BA
namespace Go.Proofs.YtnakejhohdbfdacGreatDoor.Cls
open Go.RowKit BA Go.Proofs.Tryz
theorem tF {a b:Bool}(h:a=b):Ending.returned (.bool a)=.returned (.bool b):=by rw[h]
theorem BC {a b:Int}(h:a=b):Ending.returned (.int .i64 a)=.returned (.int .i64 b):=by rw[h]
theorem N8 (a:Int)(w:World):Calls prog 75 #[.int .i64 a] w fun e w'=>e=.returned (.bool (tE a))/\w'=w:=by
 go_enter func75,ntmps75;go_wp2
 all_goals go_ret
 all_goals exact⟨tF (by simp[tE, *]),rfl⟩
theorem N9 (a b:Int)(w:World):Calls prog 76 #[.int .i64 a,.int .i64 b] w fun e w'=>e=.returned (.bool (wh a b))/\w'=w:=by
 go_enter func76,ntmps76;go_wp2
 all_goals go_ret
 all_goals exact⟨tF (by simp[wh, *]),rfl⟩
theorem N_ (p a:Int)(w:World):Calls prog 77 #[.int .i64 p,.int .i64 a] w fun e w'=>e=.returned (.int .i64 (DM p a))/\w'=w:=by
 go_enter func77,ntmps77;go_wp2
 all_goals go_ret
 all_goals exact⟨BC (by simp[DM, *]),rfl⟩
theorem Oa (b:Nat)(l p:Int)(o:Bool)(n:Int)(w:World)(hl:w.cell? ⟨b,0,none⟩=some (.int .i64 l))(hp:w.cell? ⟨b,1,none⟩=some (.int .i64 p))(ho:w.cell? ⟨b,2,none⟩=some (.bool o)) :
 Calls prog 38 #[.pointer (some ⟨b,0,none⟩),.int .i64 n] w fun e w'=>e=.returned (.bool (wo l p o n))/\w'=w:=by
 go_enter func38,ntmps38
 go_wp2_with (first
  | (go_at_call 75;refine(N8 _ _).mono ?_;rintro e w' ⟨rfl,rfl⟩)
  | (go_at_call 76;refine(N9 _ _ _).mono ?_;rintro e w' ⟨rfl,rfl⟩))
 all_goals go_ret
 all_goals refine⟨tF ?_,rfl⟩
 all_goals clear hl hp ho
 all_goals first | (simp[wo, *];done) | (simp[wo, *];rfl) | (simp_all[wo];done)
theorem Iq (w:World)(b:Nat)(x y z x' y' z':Value)(hh:w.heap[b]?=some (.cells #[x,y,z] 107 (0,0))) :
 (((w.setCell ⟨b,0,none⟩ x').setCell ⟨b,1,none⟩ y').setCell ⟨b,2,none⟩ z').heap[b]?=some (.cells #[x',y',z'] 107 (0,0)):=by
 rw[fU _ b 2 _ 107 z' (fU _ b 1 _ 107 y' (fU _ b 0 _ 107 x' hh))];rfl
theorem EB (w:World)(b:Nat)(x' y' z':Value):w.grownBy (((w.setCell ⟨b,0,none⟩ x').setCell ⟨b,1,none⟩ y').setCell ⟨b,2,none⟩ z') (some b) :=
 ⟨rfl,rfl,rfl,by simp,fun k _ hk=>by
  have hne:k≠b:=fun e=>hk (by rw[e])
  rw[gF _ ⟨b,2,none⟩ k z' hne,gF _ ⟨b,1,none⟩ k y' hne,gF _ ⟨b,0,none⟩ k x' hne]⟩
theorem BD (b:Nat)(l p:Int)(o:Bool)(n:Int)(w:World)(hh:w.heap[b]?=some (.cells #[.int .i64 l,.int .i64 p,.bool o] 107 (0,0))) :
 Calls prog 39 #[.pointer (some ⟨b,0,none⟩),.int .i64 n] w fun e w'=>e=.returned (.tuple #[])/\w'.heap[b]?=some (.cells #[.int .i64 n,.int .i64 (DM p n),.bool (SY o n)] 107 (0,0))/\w.grownBy w' (some b):=by
 have c0:w.cell? ⟨b,0,none⟩=some (.int .i64 l):=fI w b 0 _ _ _ hh;have c1:w.cell? ⟨b,1,none⟩=some (.int .i64 p):=fI w b 1 _ _ _ hh;have c2:w.cell? ⟨b,2,none⟩=some (.bool o):=fI w b 2 _ _ _ hh;have f0:w.frozen? ⟨b,0,none⟩=false:=fT w b 0 _ _ hh;have f1:w.frozen? ⟨b,1,none⟩=false:=fT w b 1 _ _ hh;have f2:w.frozen? ⟨b,2,none⟩=false:=fT w b 2 _ _ hh;have HH:Hid _:=hh;clear hh;go_enter func39,ntmps39;go_wp2_with (go_at_call 77;refine(N_ _ _ _).mono ?_;rintro e w' ⟨rfl,rfl⟩)
 all_goals go_end0
 all_goals (refine⟨rfl,?_,EB w b _ _ _⟩;rw[Iq w b _ _ _ _ _ _ HH.out])
 all_goals simp[SY, *]
end Go.Proofs.YtnakejhohdbfdacGreatDoor.Cls

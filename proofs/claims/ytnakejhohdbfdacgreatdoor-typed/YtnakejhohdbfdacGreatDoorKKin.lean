import Derived.Test.YtnakejhohdbfdacGreatDoorRows
import Derived.WalkKit
import Derived.WalkSpells
namespace Go.Proofs.YtnakejhohdbfdacGreatDoor.Kin
def aloneB (k:Int):Bool:=k == 1 || k == 2 || k == 3
def sylB (a b:Int):Bool :=
 if a == 9 then b == 9 || b == 10 || b == 12 || b == 13
 else if a == 12 || a == 10 then b == 10 || b == 11
 else if a == 13 || a == 11 then b == 11
 else false
def pictN (p k:Int):Int:=if k == 14 then 1 else if k == 4 && p == 1 then 1 else if k == 5 && p == 1 then 2 else 0
def oddN (o:Bool)(k:Int):Bool:=k == 6 && !o
def partsB (l p:Int)(o:Bool)(n:Int):Bool :=
 if l == 1 && n == 2 then false
 else if aloneB l || aloneB n then true
 else if sylB l n then false
 else if n == 4 || n == 5 || n == 8 then false
 else if l == 7 then false
 else if p == 2 && n == 14 then false
 else if o && n == 6 then false
 else true
def lastOf:List Int→Int
 | []=>0
 | k :: _=>k
def pictOf:List Int→Int
 | []=>0
 | k :: l=>pictN (pictOf l) k
def oddOf:List Int→Bool
 | []=>false
 | k :: l=>oddN (oddOf l) k
def pictBack:List Int→Bool
 | []=>false
 | k :: l=>if k == 4 then pictBack l else k == 14
def flags:List Int→Nat
 | []=>0
 | k :: l=>if k == 6 then flags l+1 else 0
def joinB (a:Int)(pre:List Int)(b:Int):Bool :=
 if a == 1 && b == 2 then true
 else if aloneB a || aloneB b then false
 else if sylB a b then true
 else if b == 4 || b == 5 || b == 8 || a == 7 then true
 else if a == 5 && b == 14 then pictBack pre
 else if a == 6 && b == 6 then flags (a :: pre) % 2 == 1
 else false
def pref (f:Nat→Int):Nat→List Int
 | 0=>[]
 | k+1=>f k :: pref f k
theorem pictOf_one:∀l:List Int,(pictOf l == 1)=pictBack l
 | []=>rfl
 | k :: l=>by
   have ih:=pictOf_one l;unfold pictOf pictN pictBack;rw[ih];by_cases h4:k=4
   ·subst h4;cases pictBack l <;> rfl
   ·by_cases h14:k=14
    ·subst h14;rfl
    ·by_cases h5:k=5
     ·subst h5;cases pictBack l <;> rfl
     ·simp[h4,h14,h5]
theorem pictOf_two (k:Int)(l:List Int):(pictOf (k :: l) == 2)=(k == 5 && pictBack l):=by
 have ih:=pictOf_one l;unfold pictOf pictN;rw[ih];by_cases h14:k=14
 ·subst h14;cases pictBack l <;> rfl
 ·by_cases h4:k=4
  ·subst h4;cases pictBack l <;> rfl
  ·by_cases h5:k=5
   ·subst h5;cases pictBack l <;> rfl
   ·simp[h4,h14,h5]
theorem oddOf_flags:∀l:List Int,oddOf l=(flags l % 2 == 1)
 | []=>rfl
 | k :: l=>by
   have ih:=oddOf_flags l;unfold oddOf oddN flags;rw[ih];by_cases h:k=6
   ·subst h
    rcases Nat.mod_two_eq_zero_or_one (flags l)with h0 | h0
    ·have:(flags l+1) % 2=1:=by omega
     simp[h0,this]
    ·have:(flags l+1) % 2=0:=by omega
     simp[h0,this]
   ·simp[h]
theorem flags_other {a:Int}{l:List Int}(h:a≠6):flags (a :: l)=0:=by unfold flags;simp[h]
theorem parts_joined (a:Int)(pre:List Int)(b:Int):partsB a (pictOf (a :: pre)) (oddOf (a :: pre)) b=!joinB a pre b:=by
 unfold partsB joinB;rw[pictOf_two,oddOf_flags];by_cases c1:(a == 1 && b == 2)=true
 ·simp[c1]
 ·rw[if_neg c1,if_neg c1]
  by_cases c2:(aloneB a || aloneB b)=true
  ·simp[c2]
  ·rw[if_neg c2,if_neg c2]
   by_cases c3:sylB a b=true
   ·simp[c3]
   ·rw[if_neg c3,if_neg c3]
    by_cases c4:(b == 4 || b == 5 || b == 8)=true
    ·have:(b == 4 || b == 5 || b == 8 || a == 7)=true:=by rw[c4];rfl
     rw[if_pos c4,if_pos this];rfl
    ·rw[if_neg c4]
     by_cases c5:a=7
     ·have:(b == 4 || b == 5 || b == 8 || a == 7)=true:=by rw[c5];simp
      rw[if_pos (by rw[c5];rfl),if_pos this];rfl
     ·have h7:(a == 7)=false:=beq_eq_false_iff_ne.2 c5
      have:¬(b == 4 || b == 5 || b == 8 || a == 7)=true:=by
       rw[h7,Bool.or_false];exact c4
      rw[if_neg (by rw[h7];exact Bool.false_ne_true),if_neg this];by_cases a5:a=5
      ·by_cases b14:b=14
       ·subst a5 b14
        cases pictBack pre <;> rfl
       ·have h1:(b == 14)=false:=beq_eq_false_iff_ne.2 b14
        have h6:flags (a :: pre)=0:=flags_other (by omega);have e6:(a == 6)=false:=beq_eq_false_iff_ne.2 (by omega);simp[h1,h6,e6]
      ·have h5:(a == 5)=false:=beq_eq_false_iff_ne.2 a5
       by_cases a6:a=6
       ·subst a6
        by_cases b6:b=6
        ·subst b6;cases (flags (6 :: pre) % 2 == 1) <;> rfl
        ·have h6:(b == 6)=false:=beq_eq_false_iff_ne.2 b6
         simp[h6]
       ·have e6:(a == 6)=false:=beq_eq_false_iff_ne.2 a6
        have h6:flags (a :: pre)=0:=flags_other a6;simp[h5,e6,h6]
end Go.Proofs.YtnakejhohdbfdacGreatDoor.Kin
namespace Go.Proofs.YtnakejhohdbfdacGreatDoor.Cls
open Go.RowKit Kin
theorem retB {a b:Bool}(h:a=b):Ending.returned (.bool a)=.returned (.bool b):=by rw[h]
theorem retI {a b:Int}(h:a=b):Ending.returned (.int .i64 a)=.returned (.int .i64 b):=by rw[h]
set_option maxHeartbeats 1000000 in
theorem fn38_any (a:Int)(w:World):Calls Tryz.prog 75 #[.int .i64 a] w fun e w'=>e=.returned (.bool (aloneB a))∧w'=w:=by
 go_enter Tryz.func75,Tryz.ntmps75;go_wp2
 all_goals go_ret
 all_goals exact⟨retB (by simp[aloneB, *]),rfl⟩
set_option maxHeartbeats 1000000 in
theorem fn39_any (a b:Int)(w:World):Calls Tryz.prog 76 #[.int .i64 a,.int .i64 b] w fun e w'=>e=.returned (.bool (sylB a b))∧w'=w:=by
 go_enter Tryz.func76,Tryz.ntmps76;go_wp2
 all_goals go_ret
 all_goals exact⟨retB (by simp[sylB, *]),rfl⟩
set_option maxHeartbeats 1000000 in
theorem fn40_any (p a:Int)(w:World):Calls Tryz.prog 77 #[.int .i64 p,.int .i64 a] w fun e w'=>e=.returned (.int .i64 (pictN p a))∧w'=w:=by
 go_enter Tryz.func77,Tryz.ntmps77;go_wp2
 all_goals go_ret
 all_goals exact⟨retI (by simp[pictN, *]),rfl⟩
set_option maxHeartbeats 2000000 in
theorem fn33_any (b:Nat)(l p:Int)(o:Bool)(n:Int)(w:World)(hl:w.cell? ⟨b,0,none⟩=some (.int .i64 l))(hp:w.cell? ⟨b,1,none⟩=some (.int .i64 p))(ho:w.cell? ⟨b,2,none⟩=some (.bool o)) :
 Calls Tryz.prog 38 #[.pointer (some ⟨b,0,none⟩),.int .i64 n] w fun e w'=>e=.returned (.bool (partsB l p o n))∧w'=w:=by
 go_enter Tryz.func38,Tryz.ntmps38
 go_wp2_with (first
  | (go_at_call 75;refine(fn38_any _ _).mono ?_;rintro e w' ⟨rfl,rfl⟩)
  | (go_at_call 76;refine(fn39_any _ _ _).mono ?_;rintro e w' ⟨rfl,rfl⟩))
 all_goals go_ret
 all_goals refine⟨retB ?_,rfl⟩
 all_goals clear hl hp ho
 all_goals first | (simp[partsB, *];done) | (simp[partsB, *];rfl) | (simp_all[partsB];done)
theorem three_heap (w:World)(b:Nat)(x y z x' y' z':Value)(hh:w.heap[b]?=some (.cells #[x,y,z] 107 (0,0))) :
 (((w.setCell ⟨b,0,none⟩ x').setCell ⟨b,1,none⟩ y').setCell ⟨b,2,none⟩ z').heap[b]?=some (.cells #[x',y',z'] 107 (0,0)):=by
 rw[heap_setCell_same _ b 2 _ 107 z' (heap_setCell_same _ b 1 _ 107 y' (heap_setCell_same _ b 0 _ 107 x' hh))];rfl
theorem three_stores (w:World)(b:Nat)(x' y' z':Value):w.grownBy (((w.setCell ⟨b,0,none⟩ x').setCell ⟨b,1,none⟩ y').setCell ⟨b,2,none⟩ z') (some b) :=
 ⟨rfl,rfl,rfl,by simp,fun k _ hk=>by
  have hne:k≠b:=fun e=>hk (by rw[e])
  rw[heap_setCell_other _ ⟨b,2,none⟩ k z' hne,heap_setCell_other _ ⟨b,1,none⟩ k y' hne,heap_setCell_other _ ⟨b,0,none⟩ k x' hne]⟩
set_option maxHeartbeats 2000000 in
theorem fn34_any (b:Nat)(l p:Int)(o:Bool)(n:Int)(w:World)(hh:w.heap[b]?=some (.cells #[.int .i64 l,.int .i64 p,.bool o] 107 (0,0))) :
 Calls Tryz.prog 39 #[.pointer (some ⟨b,0,none⟩),.int .i64 n] w fun e w'=>e=.returned (.tuple #[])∧w'.heap[b]?=some (.cells #[.int .i64 n,.int .i64 (pictN p n),.bool (oddN o n)] 107 (0,0))∧w.grownBy w' (some b):=by
 have c0:w.cell? ⟨b,0,none⟩=some (.int .i64 l):=cell_of_row w b 0 _ _ _ hh;have c1:w.cell? ⟨b,1,none⟩=some (.int .i64 p):=cell_of_row w b 1 _ _ _ hh;have c2:w.cell? ⟨b,2,none⟩=some (.bool o):=cell_of_row w b 2 _ _ _ hh;have f0:w.frozen? ⟨b,0,none⟩=false:=frozen_of_row w b 0 _ _ hh;have f1:w.frozen? ⟨b,1,none⟩=false:=frozen_of_row w b 1 _ _ hh;have f2:w.frozen? ⟨b,2,none⟩=false:=frozen_of_row w b 2 _ _ hh;have HH:Hid _:=hh;clear hh;go_enter Tryz.func39,Tryz.ntmps39;go_wp2_with (go_at_call 77;refine(fn40_any _ _ _).mono ?_;rintro e w' ⟨rfl,rfl⟩)
 all_goals go_end0
 all_goals (refine⟨rfl,?_,three_stores w b _ _ _⟩;rw[three_heap w b _ _ _ _ _ _ HH.out])
 all_goals simp[oddN, *]
end Go.Proofs.YtnakejhohdbfdacGreatDoor.Cls

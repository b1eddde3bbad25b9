import Derived.Test.YtnakejhohdbfdacGreatDoorKDcR
import Derived.Test.YtnakejhohdbfdacGreatDoorKFtB
namespace Go.Proofs.YtnakejhohdbfdacGreatDoor.Cls.Dc
open Go.RowKit Dec Kin Bnd Lay Lev
theorem Doc.low {w:World}{B D n lo:Nat}{R:Int}{t:ByteArray}(h:Doc w B D R t n lo):Doc w B D R t n 0:=by
 obtain⟨vB,Z,P,Bl,Bd,V,Ls,vU,nU,xs,L,q1,q2,q3,q4,q5,q6,q7,q8,_⟩:=h.x;exact⟨⟨vB,Z,P,Bl,Bd,V,Ls,vU,nU,xs,L,q1,q2,q3,q4,q5,q6,q7,q8,Nat.zero_le _⟩,h.t,h.r,h.bD,h.b9,h.g,h.bw⟩
theorem Chg.below {w w1 w':World}{B D:Nat}(h:Chg w1 w' B D)(hf:Fr [] w w1)(hB:B=w.heap.size):Below w.heap.size w w' :=
 ⟨h.os.trans hf.os,h.tape.trans hf.tape,h.output.trans hf.output,Nat.le_trans hf.size h.size,fun k hk=>(h.low k (hB ▸ hk) (Nat.lt_of_lt_of_le hk hf.size)).trans (hf.block k hk List.not_mem_nil)⟩
theorem Gr.nine {w:World}(h:Gr w):9<w.heap.size:=World.block_lt_of_cell? _ _ (h.u.2 0 (by decide)).1
set_option maxRecDepth 10000 in
set_option maxHeartbeats 8000000 in
theorem typed_any (s:ByteArray)(w:World)(hG:Gr w) :
 Calls Tryz.prog 4 #[.string s] w fun e w'=>e=.returned (.bool true)∧Below w.heap.size w w':=by
 have H6:=hid (opened_nil 70 w hG (by omega) hG.nine);obtain⟨B,hB⟩:∃B,B=w.heap.size:=⟨_,rfl⟩;rw[←hB]at H6;have HB:=hid hB;clear hG hB;go_enter Tryz.func4,Tryz.ntmps4;go_wp2_with fail;refine H6.out.mono ?_;rintro e w1 ⟨Q,D,rfl,hQ,hQD,hdoc,hf1⟩;have HQ1:=hid hQ;have HF1:=hid hf1;have HQD:=hid hQD;have HD1:=hid hdoc;clear hQ hQD hdoc hf1 H6;go_wp2_with fail;go_loopw [4,5] (fun sv iv wr=>∃(l:List Nat) (i:Nat),sv=.string (tx l)∧iv=.int .i64 i∧Hid (l.length=i)∧i≤60∧Hid (Doc wr B D 70 (tx l) l.length 0)∧Hid (Chg w1 wr B D)) (fun _ iv _=>60 - (intOf iv).toNat)
 case atStart=>exact⟨[],0,rfl,rfl,hid rfl,Nat.zero_le _,HD1,hid (Chg.of0 (Fr.refl [] _))⟩
 case round =>
  obtain⟨l,i,rfl,rfl,HL,hi60,HDr,HCr⟩:=hrel;have HQr:=hid (HCr.out.obj HQ1.out HQD.out (by decide));by_cases hi:i<s.size∧i<60
  ·obtain⟨h1,h2⟩:=hi
   have h1I:(i:Int)<(s.size:Int):=by omega
   have h2I:(i:Int)<60:=by omega
   have h3:((s[i]'h1).toNat:Int) % 3=0∨((s[i]'h1).toNat:Int) % 3=1∨((s[i]'h1).toNat:Int) % 3=2:=by omega
   have hsz:=tx_size l;rw[HL.out]at hsz;have K7:=hid (fun(q:Nat)=>ins_step Q D B 0 q 70 l wr HQr.out HQD.out HDr.out (by rw[HL.out];exact h2))
   rcases h3 with hm | hm | hm
   ·obtain⟨T,hT⟩:∃T,tx l++⟨#[97]⟩=T:=⟨_,rfl⟩
    have HT:=hid hT;have hns:¬ 9223372036854775807<(tx l).size+1:=by omega
    have C7:=hid (show Calls Tryz.prog 7 #[.pointer (some ⟨Q,0,none⟩),.agg #[.int .i64 11,.bool false,.int .i64 0,.int .i64 0,.bool false,.string ⟨#[97]⟩]] wr fun e w'=>Pg T true e∧Doc w' B D 70 T (0 :: l).length wr.heap.size∧Chg wr w' B D by rw[←hT];exact K7.out 0);clear K7 hsz
    as_aux_lemma =>
     go_wp2_with fail;refine C7.out.mono ?_;rintro e w2 ⟨⟨a1,a2,gx,b1,b2,c1,c2,aS,nS,cS,aB,nB,cB,nU,nR,rfl⟩,hdoc,hchg⟩;rw[←hT]at hdoc;have HDO:=hid (show Doc w2 B D 70 (tx (0 :: l)) (0 :: l).length wr.heap.size from hdoc);have HCH:=hid (HCr.out.trans hchg);generalize decide (((T.size:Nat):Int)≠0)=bb;clear hdoc hchg C7 hT hns hm;go_wp2;exact⟨⟨0 :: l,i+1,by rw[←HT.out];rfl,by go_num,hid (congrArg (·+1) HL.out),h2,hid (HDO.out.fr ((Fr.refl [] w2).alloc _)).low,hid (HCH.out.fr1 ((Fr.refl [] w2).alloc _))⟩,by simp[intOf];omega⟩
   ·obtain⟨T,hT⟩:∃T,tx l++⟨#[215,144]⟩=T:=⟨_,rfl⟩
    have HT:=hid hT;have hns:¬ 9223372036854775807<(tx l).size+2:=by omega
    have C7:=hid (show Calls Tryz.prog 7 #[.pointer (some ⟨Q,0,none⟩),.agg #[.int .i64 11,.bool false,.int .i64 0,.int .i64 0,.bool false,.string ⟨#[215,144]⟩]] wr fun e w'=>Pg T true e∧Doc w' B D 70 T (1 :: l).length wr.heap.size∧Chg wr w' B D by rw[←hT];exact K7.out 1);clear K7 hsz
    as_aux_lemma =>
     go_wp2_with fail;refine C7.out.mono ?_;rintro e w2 ⟨⟨a1,a2,gx,b1,b2,c1,c2,aS,nS,cS,aB,nB,cB,nU,nR,rfl⟩,hdoc,hchg⟩;rw[←hT]at hdoc;have HDO:=hid (show Doc w2 B D 70 (tx (1 :: l)) (1 :: l).length wr.heap.size from hdoc);have HCH:=hid (HCr.out.trans hchg);generalize decide (((T.size:Nat):Int)≠0)=bb;clear hdoc hchg C7 hT hns hm;go_wp2;exact⟨⟨1 :: l,i+1,by rw[←HT.out];rfl,by go_num,hid (congrArg (·+1) HL.out),h2,hid (HDO.out.fr ((Fr.refl [] w2).alloc _)).low,hid (HCH.out.fr1 ((Fr.refl [] w2).alloc _))⟩,by simp[intOf];omega⟩
   ·obtain⟨T,hT⟩:∃T,tx l++⟨#[49]⟩=T:=⟨_,rfl⟩
    have HT:=hid hT;have hns:¬ 9223372036854775807<(tx l).size+1:=by omega
    have C7:=hid (show Calls Tryz.prog 7 #[.pointer (some ⟨Q,0,none⟩),.agg #[.int .i64 11,.bool false,.int .i64 0,.int .i64 0,.bool false,.string ⟨#[49]⟩]] wr fun e w'=>Pg T true e∧Doc w' B D 70 T (2 :: l).length wr.heap.size∧Chg wr w' B D by rw[←hT];exact K7.out 2);clear K7 hsz
    as_aux_lemma =>
     go_wp2_with fail;refine C7.out.mono ?_;rintro e w2 ⟨⟨a1,a2,gx,b1,b2,c1,c2,aS,nS,cS,aB,nB,cB,nU,nR,rfl⟩,hdoc,hchg⟩;rw[←hT]at hdoc;have HDO:=hid (show Doc w2 B D 70 (tx (2 :: l)) (2 :: l).length wr.heap.size from hdoc);have HCH:=hid (HCr.out.trans hchg);generalize decide (((T.size:Nat):Int)≠0)=bb;clear hdoc hchg C7 hT hns hm;go_wp2;exact⟨⟨2 :: l,i+1,by rw[←HT.out];rfl,by go_num,hid (congrArg (·+1) HL.out),h2,hid (HDO.out.fr ((Fr.refl [] w2).alloc _)).low,hid (HCH.out.fr1 ((Fr.refl [] w2).alloc _))⟩,by simp[intOf];omega⟩
  ·have hx:(decide ((i:Int)<(s.size:Int))=false∧¬(i:Int)<(s.size:Int)∧decide (i<s.size)=false∧¬i<s.size∧True)∨((i:Int)<(s.size:Int)∧decide ((i:Int)<60)=false∧¬(i:Int)<60∧decide (i<60)=false∧¬i<60):=by
    rcases Nat.lt_or_ge i s.size with h | h
    ·exact .inr ⟨by omega,by simp;omega,by omega,by simp;omega,by omega⟩
    ·exact .inl ⟨by simp;omega,by omega,by simp;omega,by omega,trivial⟩
   obtain⟨S,hS⟩:∃S,S=tx l:=⟨_,rfl⟩;have HS:=hid hS;have HI:=hid hi60;obtain⟨m,hm⟩:∃m,m=l.length:=⟨_,rfl⟩;have HM:=hid hm
   have C8:=hid (fun(Y:World)=>show Calls Tryz.prog 8 #[.string S] Y fun e w'=>∃a c,e=.returned (.slice a m c)∧Below Y.heap.size Y w' by
    rw[hS,hm]
    refine(Wr.dec8 (tx l) l.length Y (tx_txt (by rw[HL.out];exact hi60)).e (by have:=tx_size l;have:=HL.out;omega)).mono ?_
    rintro e w' ⟨a,c,rfl,_,hb⟩
    exact⟨a,c,rfl,hb⟩)
   have hm60:m≤60:=by rw[hm,HL.out];exact hi60
   rw[←hS];clear hS hi hm;obtain⟨hx1,hx2,hx3,hx4,hx5⟩ | ⟨hx1,hx2,hx3,hx4,hx5⟩:=hx
   all_goals (
    go_wp2_with fail
    clear hx1 hx2 hx3 hx4 hx5
    go_loopw [8,9] (fun nv jv wz=>∃(k:List Nat) (n j:Nat),nv=.int .i64 n∧jv=.int .i64 j∧Hid (k.length+n=m)∧n≤60∧j≤70∧Hid (k=[]∨j=n)∧Hid (Doc wz B D 70 (tx k) k.length 0)∧Hid (Chg w1 wz B D)) (fun _ jv _=>70 - (intOf jv).toNat)
    case atStart=>exact⟨l,0,0,rfl,rfl,hid HM.out.symm,Nat.zero_le _,Nat.zero_le _,hid (.inr rfl),HDr,HCr⟩
    case round =>
     obtain⟨k,n,j,rfl,rfl,HK,hn60,hj70,HJ,HDz,HCz⟩:=hrel
     have HQz:=hid (HCz.out.obj HQ1.out HQD.out (by decide))
     by_cases hj:j<70
     ·have hjI:(j:Int)<70:=by omega
      cases k with
      | nil =>
        as_aux_lemma =>
         have C7:=hid (show Calls Tryz.prog 7 #[.pointer (some ⟨Q,0,none⟩),.agg #[.int .i64 12,.bool false,.int .i64 0,.int .i64 0,.bool false,.string ⟨#[]⟩]] wr fun e w'=>Pg ⟨#[]⟩ false e∧Doc w' B D 70 (tx []) 0 0∧Chg wr w' B D from era_none Q D B 0 70 wr HQz.out HDz.out)
         go_wp2_with fail
         refine C7.out.mono ?_
         rintro e w2 ⟨⟨a1,a2,gx,b1,b2,c1,c2,aS,nS,cS,aB,nB,cB,nU,nR,rfl⟩,hdoc,hchg⟩
         have HDO:=hid hdoc
         have HCH:=hid (HCz.out.trans hchg)
         clear hdoc hchg C7
         go_wp2
         exact⟨⟨[],n,j+1,rfl,by go_num,HK,hn60,hj,hid (.inl rfl),hid (HDO.out.fr ((Fr.refl [] w2).alloc _)),hid (HCH.out.fr1 ((Fr.refl [] w2).alloc _))⟩,by simp[intOf];omega⟩
      | cons q k =>
        as_aux_lemma =>
         have hjn:j=n:=HJ.out.resolve_left (by simp)
         have hkl:k.length+1+n=m:=HK.out
         obtain⟨T,hT⟩:∃T,tx k=T:=⟨_,rfl⟩
         have C7:=hid (show Calls Tryz.prog 7 #[.pointer (some ⟨Q,0,none⟩),.agg #[.int .i64 12,.bool false,.int .i64 0,.int .i64 0,.bool false,.string ⟨#[]⟩]] wr fun e w'=>Pg T true e∧Doc w' B D 70 (tx k) k.length wr.heap.size∧Chg wr w' B D by rw[←hT];exact era_step Q D B 0 q 70 k wr HQz.out HQD.out HDz.out (by omega))
         have HKL:=hid hkl
         have HJN:=hid hjn
         clear hT hkl hjn
         go_wp2_with fail
         refine C7.out.mono ?_
         rintro e w2 ⟨⟨a1,a2,gx,b1,b2,c1,c2,aS,nS,cS,aB,nB,cB,nU,nR,rfl⟩,hdoc,hchg⟩
         have HDO:=hid hdoc
         have HCH:=hid (HCz.out.trans hchg)
         generalize decide (((T.size:Nat):Int)≠0)=bb
         clear hdoc hchg C7
         go_wp2
         exact⟨⟨k,n+1,j+1,by go_num,by go_num,hid (by have:=HKL.out;omega),by have:=HKL.out;omega,hj,hid (.inr (by rw[HJN.out])),hid (HDO.out.fr ((Fr.refl [] w2).alloc _)).low,hid (HCH.out.fr1 ((Fr.refl [] w2).alloc _))⟩,by simp[intOf];omega⟩
     ·obtain rfl:j=70:=by omega
      have hk0:k=[]:=HJ.out.resolve_right (by omega)
      subst hk0
      have hnm:n=m:=by have:=HK.out;simp at this;exact this
      subst hnm
      have HCW:=hid (HCz.out.below HF1.out HB.out)
      clear HK HJ HDz
      as_aux_lemma =>
       go_wp2_with fail
       refine(C8.out wr).mono ?_
       rintro e w3 ⟨a,c,rfl,hb⟩
       have HBE:=hid (HCW.out.trans (hb.mono HCW.out.size))
       clear hb C8
       go_wp2
       go_ret
       exact⟨rfl,HBE.out⟩)
end Go.Proofs.YtnakejhohdbfdacGreatDoor.Cls.Dc

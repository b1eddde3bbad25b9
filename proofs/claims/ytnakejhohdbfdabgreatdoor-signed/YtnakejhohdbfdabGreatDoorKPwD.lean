import Derived.Test.YtnakejhohdbfdabGreatDoorKPvO
namespace Go.Proofs.YtnakejhohdbfdabGreatDoor
open Go.RowKit Lev Lay
def sl0 (w:World)(B:Nat)(v:Value)(l:List Int):Prop:=∃a c,v=.slice a l.length c∧(l.length=0∨∃g,a=some ⟨g,0,none⟩∧B≤g∧rowAt w g l.length l)
theorem sl0.fr {S:List Nat}{w w':World}{B:Nat}{v:Value}{l:List Int}(h:sl0 w B v l)(hf:Fr S w w')(hS:∀k∈S,k<B):sl0 w' B v l:=by
 obtain⟨a,c,h1,h2⟩:=h;refine⟨a,c,h1,h2.imp id ?_⟩;rintro ⟨g,h3,h4,h5⟩;exact⟨g,h3,h4,h5.fr hf (fun hm=>by have:=hS g hm;omega)⟩
def clP (B V X:List Int)(c:Nat):List (Int × Int × Int × Int):=(List.range c).map fun i=>(nth B i,nth B (i+1),nth V i,nth X i)
theorem clP_len (B V X:List Int)(c:Nat):(clP B V X c).length=c:=by simp[clP]
theorem clP_at (B V X:List Int){c i:Nat}(h:i<c):(clP B V X c)[i]?=some (nth B i,nth B (i+1),nth V i,nth X i):=by simp[clP,h]
theorem sl0.row {w:World}{B:Nat}{v:Value}{l:List Int}(h:sl0 w B v l)(h0:0<l.length):∃g c,v=.slice (some ⟨g,0,none⟩) l.length c∧B≤g∧rowAt w g l.length l:=by
 obtain⟨a,c,h1,h2⟩:=h
 rcases h2 with h3 | ⟨g,rfl,h4,h5⟩
 ·omega
 ·exact⟨g,c,h1,h4,h5⟩
set_option maxRecDepth 10000 in
set_option maxHeartbeats 4000000 in
theorem clusters_any (P c Bs:Nat)(v0 v1 v2 vL vr:Value)(B V X:List Int)(w:World)(ho:w.heap[P]?=some (.cells #[v0,v1,v2,vL,vr] 210 (0,0)))(hB:sl0 w Bs v0 B)(hV:sl0 w Bs v1 V)(hX:sl0 w Bs v2 X)(hVl:V.length=c)(hXl:X.length=c)(hBl:B.length=c+1)(hc1:c≤1000) :
 Calls Tryz.prog 79 #[.pointer (some ⟨P,0,none⟩)] w fun e w'=>∃v,e=.returned v∧w'.ownsRow w.heap.size 67 4 v c (clCells (clP B V X c))∧Fr [] w w':=by
 obtain⟨i48,hi48,hx0,hx1,hx2⟩:=info_parts info67;obtain⟨aV,cV,rfl,hV2⟩:=hV;rw[hVl]at hV2 ho;obtain⟨ZL,hZL⟩:∃ZL,ZL=madeCells (Value.agg #[.int .i64 0,.int .i64 0,.int .i64 0,.int .i64 0]).cells (c * 4):=⟨_,rfl⟩;have hmk1:∀X:World,(Instr.makeSlice 64 (.int .i64 c) (.int .i64 c)).run Tryz.prog X=.ok (.slice (some ⟨X.heap.size,0,none⟩) c c) (X.alloc (.cells ZL 67)):=fun X=>by
  have:=run_make (P:=Tryz.prog) X 64 67 i48 _ Tryz.underlying64 hi48 hx0 .i64 .i64 c c (by omega) (Int.le_refl _) (by rw[hx2];omega) (by omega);rw[hx1]at this;rw[hZL];exact this
 have HZL:=hid hZL;have HO0:=hid (show(w.alloc (.cells ZL 67)).ownsRow w.heap.size 67 4 (.slice (some ⟨w.heap.size,0,none⟩) c c) c ZL.toList from World.ownsRow_lit (base:=w.heap.size) (e:=67) (size:=4) w ZL c (Nat.le_refl _) (by unfold maxLen;omega) (by rw[hZL,size_madeCells]));have HOP:=hid ho;have hPl:=obj_lt ho;have p1:=obj_cell ho (i:=1) (v:=.slice aV c cV) rfl;have HB:=hid hB;have HXX:=hid hX;have HV2:=hid hV2;clear hZL hB hX hV2 ho;go_enter Tryz.func79,Tryz.ntmps79;go_wp2;go_loopw [14] (fun a wr=>∃(i:Nat) (xs:List Value),a=.int .i64 i∧i≤c∧Hid (Fr [] w wr)∧Hid (wr.ownsRow w.heap.size 67 4 (.slice (some ⟨w.heap.size,0,none⟩) c c) c xs)∧Hid (∀j,j<i * 4→xs[j]?=(clCells (clP B V X c))[j]?)) (fun a _=>c - (intOf a).toNat)
 case atStart=>exact⟨0,_,rfl,Nat.zero_le _,hid ((Fr.refl _ _).alloc _),HO0,hid (fun j hj=>absurd hj (by omega))⟩
 case round =>
  obtain⟨i,xs,rfl,hin,HF,HO,HX⟩:=hrel;by_cases hlt:i<c
  ·obtain⟨gB,cB,rfl,hgB,rB⟩:=HB.out.row (by omega)
   obtain⟨gX,cX,rfl,hgX,rX⟩:=HXX.out.row (by omega);obtain⟨gV,rfl,hgV,rV⟩:=HV2.out.resolve_left (by omega);have ho:=obj_fr HOP.out HF.out List.not_mem_nil;have d0:=obj_cell ho (i:=0) (v:=.slice (some ⟨gB,0,none⟩) B.length cB) rfl;have d1:=obj_cell ho (i:=1) (v:=.slice (some ⟨gV,0,none⟩) c cV) rfl;have d2:=obj_cell ho (i:=2) (v:=.slice (some ⟨gX,0,none⟩) X.length cX) rfl;rw[hBl]at d0;rw[hXl]at d2;have e0:=HF.out.cell (rB i (by omega)) List.not_mem_nil;have e1:=HF.out.cell (rB (i+1) (by omega)) List.not_mem_nil;have e2:=HF.out.cell (rV i (by omega)) List.not_mem_nil;have e3:=HF.out.cell (rX i (by omega)) List.not_mem_nil;have HCA:=hid (clCells_at (clP B V X c) i _ (clP_at B V X hlt));have hxl:xs.length=c * 4:=HO.out.1;have hf:∀j,wr.frozen? ⟨w.heap.size,j,none⟩=false:=fun j=>HO.out.frozenAt j
   have hcx:∀j,j<c * 4→∃u,wr.cell? ⟨w.heap.size,j,none⟩=some u:=fun j hj=>by
    rw[HO.out.cellAt j (by omega),List.getElem?_eq_getElem (by omega)];exact⟨_,rfl⟩
   obtain⟨y0,f0⟩:=hcx (i * 4) (by omega);obtain⟨y1,f1⟩:=hcx (i * 4+1) (by omega);obtain⟨y2,f2⟩:=hcx (i * 4+2) (by omega);obtain⟨y3,f3⟩:=hcx (i * 4+3) (by omega);have g0:=hf (i * 4);have g1:=hf (i * 4+1);have g2:=hf (i * 4+2);have g3:=hf (i * 4+3);have hiI:(i:Int)<(c:Int):=by omega
   have hiI2:(i:Int)+1<(c:Int)+1:=by omega
   generalize nth B i=b0 at *;generalize nth B (i+1)=b1 at *;generalize nth V i=b2 at *;generalize nth X i=b3 at *;have HS1:=hid (HO.out.stored (i * 4) (.int .i64 b0));have HS2:=hid (HS1.out.1.stored (i * 4+1) (.int .i64 b1));have HS3:=hid (HS2.out.1.stored (i * 4+2) (.int .i64 b2));have HS4:=hid (HS3.out.1.stored (i * 4+3) (.int .i64 b3))
   have HG4:=hid (show Fr [] w ((((wr.setCell ⟨w.heap.size,i * 4,none⟩ (.int .i64 b0)).setCell ⟨w.heap.size,i * 4+1,none⟩ (.int .i64 b1)).setCell ⟨w.heap.size,i * 4+2,none⟩ (.int .i64 b2)).setCell ⟨w.heap.size,i * 4+3,none⟩ (.int .i64 b3)).drew from
    ((((HF.out.grown HS1.out.2 (fun k hk=>by cases hk;exact Nat.le_refl _)).grown HS2.out.2 (fun k hk=>by cases hk;exact Nat.le_refl _)).grown HS3.out.2 (fun k hk=>by cases hk;exact Nat.le_refl _)).grown HS4.out.2 (fun k hk=>by cases hk;exact Nat.le_refl _)).drew)
   have HO4:=hid (show((((wr.setCell ⟨w.heap.size,i * 4,none⟩ (.int .i64 b0)).setCell ⟨w.heap.size,i * 4+1,none⟩ (.int .i64 b1)).setCell ⟨w.heap.size,i * 4+2,none⟩ (.int .i64 b2)).setCell ⟨w.heap.size,i * 4+3,none⟩ (.int .i64 b3)).drew.ownsRow w.heap.size 67 4 (.slice (some ⟨w.heap.size,0,none⟩) c c) c ((((xs.set (i * 4) (.int .i64 b0)).set (i * 4+1) (.int .i64 b1)).set (i * 4+2) (.int .i64 b2)).set (i * 4+3) (.int .i64 b3))from owns_fr0 HS4.out.1 ((Fr.refl [] _).drew))
   have HX4:=hid (show ∀j,j<(i+1) * 4→((((xs.set (i * 4) (.int .i64 b0)).set (i * 4+1) (.int .i64 b1)).set (i * 4+2) (.int .i64 b2)).set (i * 4+3) (.int .i64 b3))[j]?=(clCells (clP B V X c))[j]? from fun j hj=>by
    obtain⟨q0,q1,q2,q3⟩:=HCA.out
    by_cases h3:j=i * 4+3
    ·subst h3;rw[List.getElem?_set_self (by simp;omega),q3]
    ·rw[List.getElem?_set_ne (by omega)]
     by_cases h2:j=i * 4+2
     ·subst h2;rw[List.getElem?_set_self (by simp;omega),q2]
     ·rw[List.getElem?_set_ne (by omega)]
      by_cases h1:j=i * 4+1
      ·subst h1;rw[List.getElem?_set_self (by simp;omega),q1]
      ·rw[List.getElem?_set_ne (by omega)]
       by_cases h0:j=i * 4
       ·subst h0;rw[List.getElem?_set_self (by omega),q0]
       ·rw[List.getElem?_set_ne (by omega)];exact HX.out j (by omega))
   clear rB rX rV ho hf hcx p1;go_wp2;go_region;go_wp2;go_roundw
   case rel=>exact⟨i+1,_,by go_num,by omega,HG4,HO4,HX4⟩
   case measure=>simp[intOf];omega
  ·obtain rfl:i=c:=by omega
   have hiI:¬(i:Int)<(i:Int):=by omega
   have HXE:=hid (show xs=clCells (clP B V X i)from List.ext_getElem? (fun j=>by
    by_cases hj:j<i * 4
    ·exact HX.out j hj
    ·rw[List.getElem?_eq_none (by have:=HO.out.1;omega),List.getElem?_eq_none (by rw[clCells_len,clP_len];omega)]))
   have HOE:=hid (show wr.ownsRow w.heap.size 67 4 (.slice (some ⟨w.heap.size,0,none⟩) i i) i (clCells (clP B V X i)) by rw[←HXE.out];exact HO.out);go_wp2;go_ret;exact⟨_,rfl,HOE.out,HF.out⟩
end Go.Proofs.YtnakejhohdbfdabGreatDoor

import Derived.Test.YtnakejhohdbfdabGreatDoorKPlC
import Derived.Test.YtnakejhohdbfdabGreatDoorKLdB
namespace Go.Proofs.YtnakejhohdbfdabGreatDoor
open Go.RowKit Lev Lay Bnd
structure Floor (w:World):Prop where
 t3:Cls.TabAt w 5 Tabs.lowTab
 t4:Cls.TabAt w 6 Tabs.highTab
 t9:Cls.TabAt w 1 Tabs.kindTab
 e0:w.cell? ⟨0,0,none⟩=some (As.rty 103)
 e5:errAt w 7
 e6:errAt w 2
 e7:errAt w 8
 e8:errAt w 9
theorem errAt.fr {w w':World}{g:Nat}(h:errAt w g)(hf:Fr [] w w'):errAt w' g:=by
 obtain⟨t,v,h⟩:=h;exact⟨t,v,hf.cell h List.not_mem_nil⟩
theorem Floor.fr {w w':World}(h:Floor w)(hf:Fr [] w w'):Floor w' :=
 ⟨tab_fr h.t3 hf,tab_fr h.t4 hf,tab_fr h.t9 hf,hf.cell h.e0 List.not_mem_nil,h.e5.fr hf,h.e6.fr hf,h.e7.fr hf,h.e8.fr hf⟩
def faultAt (w:World)(x:Value)(c:Int):Prop:=∃P,x=.iface 162 (.pointer (some ⟨P,0,none⟩))∧w.cell? ⟨P,0,none⟩=some (.int .i64 c)
set_option maxRecDepth 10000 in
set_option maxHeartbeats 4000000 in
theorem ckP_bad (s:ByteArray)(b x:Int)(vW vB:Value)(w:World)
 (hc:∀w',Calls Tryz.prog 81 #[.string s,.int .i64 b] w' fun e w2=>e=.returned (.iface 162 (.pointer (some ⟨w'.heap.size,0,none⟩)))∧w2=faulty w' x) :
 Calls Tryz.prog 163 #[.agg #[.string s,.int .i64 b,vW,vB]] w fun e w'=>∃v,e=.returned v∧faultAt w' v x∧Fr [] w w':=by
 have HC:=hid hc;clear hc;go_enter Tryz.func163,Tryz.ntmps163;go_wp2_with (go_at_call 81;refine(HC.out _).mono ?_;rintro e w' ⟨rfl,rfl⟩);go_ret;exact⟨_,rfl,⟨_,rfl,by simp[faulty]⟩,((Fr.refl [] w).alloc _).alloc _⟩
theorem second_last {s:ByteArray}{n:Nat}(h:Dec.Ends s n):nix (bix s n) ((bix s n).length - 2)≤n∧nth (bnd s n) ((bnd s n).length - 2)=((Dec.pos s (nix (bix s n) ((bix s n).length - 2)):Nat):Int):=by
 have hl:=bix_len s n;refine⟨?_,?_⟩
 ·rcases Nat.lt_or_eq_of_le (show(bix s n).length - 2≤cn s n by rw[cn];omega)with h1 | h1
  ·have:=nix_lt (bix_sorted s n) h1 (by rw[cn];omega);rw[bix_last]at this;omega
  ·rw[h1,bix_last];exact Nat.le_refl _
 ·rw[bnd_length h];exact bnd_nth h (by omega)
theorem chk_in {s:ByteArray}{n:Nat}{b:Int}{W Br:List Int}(h:Dec.Ends s n)(hs:s.size≤400)(hb:b=0∨b=1∨b=2):chk s n (clsOf s n) b W Br=if okW W n=false then 3 else if Lay.brTo (bnd s n) s.size Br Br.length=false then 4 else if anyB (clsOf s n) (nix (bix s n) ((bix s n).length - 2))=true then 5 else 0:=by
 have h2:=second_last h;rw[chk,if_neg (by omega),if_neg (by omega),h2.2,early_anyB (Dec.pos_mono s),show min n (nix (bix s n) ((bix s n).length - 2))=nix (bix s n) ((bix s n).length - 2) by have:=h2.1;omega];unfold okW;by_cases h1:W.length=n
 ·cases h3:Lay.wOk W n
  ·rw[if_pos (.inr rfl),if_pos (by simp)]
  ·rw[if_neg (show ¬(W.length≠n∨true=false) by simp[h1]),if_neg (show ¬((decide (W.length=n) && true)=false) by simp[h1])]
 ·rw[if_pos (.inl h1),if_pos (by simp[h1])]
set_option maxRecDepth 10000 in
set_option maxHeartbeats 4000000 in
theorem ckP_rest (s:ByteArray)(b:Int)(vW vB:Value)(W Br:List Int)(n:Nat)(w:World)(hs:s.size≤400)(hb:b=0∨b=1∨b=2)(hF:Floor w)(hend:Dec.Ends s n)(hW:slAt w vW W)(hWl:W.length≤5000)(hB:slAt w vB Br)(hBl:Br.length≤5000) :
 Calls Tryz.prog 163 #[.agg #[.string s,.int .i64 b,vW,vB]] w fun e w'=>∃v,e=.returned v∧((v=.nilIface∧chk s n (clsOf s n) b W Br=0)∨(chk s n (clsOf s n) b W Br≠0∧faultAt w' v (chk s n (clsOf s n) b W Br)))∧Fr [] w w':=by
 obtain⟨R,hR⟩:∃R,R=chk s n (clsOf s n) b W Br:=⟨_,rfl⟩;rw[←hR];have HR:=hid (hR.trans (chk_in hend hs hb));have hn4:n≤400:=by have:=Dec.le_pos s n;have:=hend.1;omega
 obtain⟨wb,hwb⟩:∃wb,wb=w.alloc (.cells #[.string s,.int .i64 b,vW,vB] 48):=⟨_,rfl⟩;have HFb:=hid (show Fr [] w wb by rw[hwb];exact(Fr.refl [] w).alloc _);have HOB:=hid (show wb.heap[w.heap.size]?=some (.cells #[.string s,.int .i64 b,vW,vB] 48 (0,0)) by rw[hwb];exact obj_new w _);have HFL:=hid (fun(X:World) (hf:Fr [] w X)=>hF.fr hf);have H31:=hid (check_ok s b wb hs hb);have H193:=hid (ckW_any s n W vW wb hs hend (hW.fr HFb.out) hWl (HFL.out wb HFb.out).e5 (HFL.out wb HFb.out).e6);have H194:=hid (fun(X:World) (hf:Fr [] w X)=>Cls.fn25_any s X (by omega) (HFL.out X hf).t9);have H195:=hid (fun(X:World) (hf:Fr [] w X) g c (hr:rowAt X g (bnd s n).length (bnd s n))=>ckB_any (bnd s n) s.size (rises_bnd hend) ⟨by omega,by omega⟩ Br vB g c X (by have:=(bnd_len s n).2;omega) hr (hB.fr hf) hBl (HFL.out X hf).e7 (HFL.out X hf).e8);have H196:=hid (fun(X:World) (hf:Fr [] w X) g c (hr:rowAt X g (bnd s n).length (bnd s n))=>early_any s n _ (bnd s n) g c X hs hend (second_last hend).1 (by have:=(bnd_len s n).2;omega) (bnd_len s n).1 hr (second_last hend).2 (HFL.out X hf).t3 (HFL.out X hf).t4);have HE:=hid hend;have hbl:=bnd_len s n;have HBE:=hid hbl;obtain⟨nb,hnb⟩:∃nb,nb=(bnd s n).length:=⟨_,rfl⟩;rw[←hnb]at H195 H196 hbl;have HNB:=hid hnb;generalize anyB (clsOf s n) (nix (bix s n) ((bix s n).length - 2))=ea at *;obtain⟨ow,how⟩:∃ow,ow=okW W n:=⟨_,rfl⟩;obtain⟨ob,hob⟩:∃ob,ob=Lay.brTo (bnd s n) s.size Br Br.length:=⟨_,rfl⟩;rw[←how]at H193 HR;rw[←hob]at H195 HR;clear hR hend hW hB hF hnb how hob hb;go_enter Tryz.func163,Tryz.ntmps163;go_wp2_with fail;rw[←hwb];have k0:=obj_cell HOB.out (i:=0) rfl;have k2:=obj_cell HOB.out (i:=2) rfl;clear hwb;refine H31.out.mono ?_;rintro e w1 ⟨rfl,rfl⟩;go_wp2_with fail;refine H193.out.mono ?_;rintro e w2 ⟨x,rfl,hx,hf2⟩;have HF2:=hid (HFb.out.trans hf2);have HOB2:=hid (obj_fr HOB.out hf2 List.not_mem_nil);clear hf2 k0 k2 H193 H31
 rcases hx with⟨t,u,rfl,rfl⟩ | ⟨rfl,rfl⟩
 ·have HRv:=hid (show R=3 by rw[HR.out,if_pos rfl])
  go_wp2;go_ret;exact⟨_,rfl,.inr ⟨by rw[HRv.out];decide,_,rfl,by rw[HRv.out];simp⟩,HF2.out.alloc _⟩
 ·have HR2:=hid (show R=if ob=false then 4 else if ea=true then 5 else 0 by rw[HR.out,if_neg (by simp)])
  have k0:=obj_cell HOB2.out (i:=0) rfl;have H4:=hid (H194.out w2 HF2.out);clear HR;go_wp2_with fail;refine H4.out.mono ?_;rintro e w3 ⟨n',v,hn',rfl,own,hb3⟩;obtain rfl:=Dec.ends_unique HE.out hn';have HF3:=hid (HF2.out.trans (Fr.of_below (S:=[]) hb3));have HOB3:=hid (obj_fr HOB2.out (Fr.of_below (S:=[]) hb3) List.not_mem_nil);have own':=own;rw[←HNB.out]at own';obtain⟨gB,cB,hv⟩:=owns_shape (by omega) own';subst hv;have HRW:=hid (show rowAt w3 gB nb (bnd s n)from fun j hj=>by rw[own'.cellAt j (by omega),ints64_at (by rw[←HNB.out];exact hj)]);have H5:=hid (H195.out w3 HF3.out gB cB HRW.out);clear own own' hb3 hn' H4 k0;have k3:=obj_cell HOB3.out (i:=3) rfl;go_wp2_with fail;refine H5.out.mono ?_;rintro e w4 ⟨x,rfl,hx,hf4⟩;have HF4:=hid (HF3.out.trans hf4);have HOB4:=hid (obj_fr HOB3.out hf4 List.not_mem_nil);have HRW4:=hid (HRW.out.fr hf4 List.not_mem_nil);clear hf4 k3 H5
  rcases hx with⟨t,u,rfl,rfl⟩ | ⟨rfl,rfl⟩
  ·have HRv:=hid (show R=4 by rw[HR2.out,if_pos rfl])
   go_wp2;go_ret;exact⟨_,rfl,.inr ⟨by rw[HRv.out];decide,_,rfl,by rw[HRv.out];simp⟩,HF4.out.alloc _⟩
  ·have HR3:=hid (show R=if ea=true then 5 else 0 by rw[HR2.out,if_neg (by simp)])
   have k0:=obj_cell HOB4.out (i:=0) rfl;have H6:=hid (H196.out w4 HF4.out gB cB HRW4.out);cases ea
   ·have HRv:=hid (show R=0 by rw[HR3.out];rfl)
    go_wp2_with (go_at_call 259;refine H6.out.mono ?_;rintro e w5 ⟨rfl,hf5⟩;have HF5:=hid (HF4.out.trans hf5);clear hf5);go_ret;exact⟨_,rfl,.inl ⟨rfl,HRv.out⟩,HF5.out⟩
   ·have HRv:=hid (show R=5 by rw[HR3.out];rfl)
    go_wp2_with (go_at_call 259;refine H6.out.mono ?_;rintro e w5 ⟨rfl,hf5⟩;have HF5:=hid (HF4.out.trans hf5);clear hf5);go_ret;exact⟨_,rfl,.inr ⟨by rw[HRv.out];decide,_,rfl,by rw[HRv.out];simp⟩,HF5.out.alloc _⟩
end Go.Proofs.YtnakejhohdbfdabGreatDoor
namespace Go.Proofs.YtnakejhohdbfdabGreatDoor
open Go.RowKit Lev Lay
end Go.Proofs.YtnakejhohdbfdabGreatDoor

import Derived.Test.YtnakejhohdbfdaaGreatDoorXPlB
import Derived.Test.YtnakejhohdbfdaaGreatDoorXMf
import Derived.Test.YtnakejhohdbfdaaGreatDoorXLdB
import Derived.Test.YtnakejhohdbfdaaGreatDoorXMd
import Derived.Test.YtnakejhohdbfdaaGreatDoorXMa
namespace Go.Proofs.YtnakejhohdbfdaaGreatDoor
open Go.RowKit Lev Lay Bnd
structure Floor (w:World):Prop where
 u:Lib.Utf8Tabs 1 2 w
 t3:Cls.TabAt w 3 Tabs.lowTab
 t4:Cls.TabAt w 4 Tabs.highTab
 t9:Cls.TabAt w 9 Tabs.kindTab
 e0:w.cell? ⟨0,0,none⟩=some (As.rty 86)
 e5:errAt w 5
 e6:errAt w 6
 e7:errAt w 7
 e8:errAt w 8
theorem errAt.fr {w w':World}{g:Nat}(h:errAt w g)(hf:Fr [] w w'):errAt w' g:=by
 obtain⟨t,v,h⟩:=h;exact⟨t,v,hf.cell h List.not_mem_nil⟩
theorem Floor.fr {w w':World}(h:Floor w)(hf:Fr [] w w'):Floor w' :=
 ⟨Cls.tabs_below h.u (hf.below (Nat.le_refl _) (fun _ h=>absurd h List.not_mem_nil)),tab_fr h.t3 hf,tab_fr h.t4 hf,tab_fr h.t9 hf,hf.cell h.e0 List.not_mem_nil,h.e5.fr hf,h.e6.fr hf,h.e7.fr hf,h.e8.fr hf⟩
def faultAt (w:World)(x:Value)(c:Int):Prop:=∃P,x=.iface 126 (.pointer (some ⟨P,0,none⟩))∧w.cell? ⟨P,0,none⟩=some (.int .i64 c)
set_option maxRecDepth 10000 in
set_option maxHeartbeats 4000000 in
theorem ckP_bad (s:ByteArray)(b x:Int)(vW vB:Value)(w:World)
 (hc:∀w',Calls Tryz.prog 36 #[.string s,.int .i64 b] w' fun e w2=>e=.returned (.iface 126 (.pointer (some ⟨w'.heap.size,0,none⟩)))∧w2=faulty w' x) :
 Calls Tryz.prog 162 #[.agg #[.string s,.int .i64 b,vW,vB]] w fun e w'=>∃v,e=.returned v∧faultAt w' v x∧Fr [] w w':=by
 have HC:=hid hc;clear hc;go_enter Tryz.func162,Tryz.ntmps162;go_wp2_with (go_at_call 36;refine(HC.out _).mono ?_;rintro e w' ⟨rfl,rfl⟩);go_ret;exact⟨_,rfl,⟨_,rfl,by simp[faulty]⟩,((Fr.refl [] w).alloc _).alloc _⟩
theorem second_last {s:ByteArray}{n:Nat}(h:Dec.Ends s n):nix (bix s n) ((bix s n).length - 2)≤n∧nth (bnd s n) ((bnd s n).length - 2)=((Dec.pos s (nix (bix s n) ((bix s n).length - 2)):Nat):Int):=by
 have hl:=bix_len s n;refine⟨?_,?_⟩
 ·rcases Nat.lt_or_eq_of_le (show(bix s n).length - 2≤cn s n by rw[cn];omega)with h1 | h1
  ·have:=nix_lt (bix_sorted s n) h1 (by rw[cn];omega);rw[bix_last]at this;omega
  ·rw[h1,bix_last];exact Nat.le_refl _
 ·rw[bnd_length h];exact bnd_nth h (by omega)
theorem chk_in {s:ByteArray}{n:Nat}{b:Int}{W Br:List Int}(h:Dec.Ends s n)(hs:s.size≤400)(hb:b=0∨b=1∨b=2):chk s n (clsOf s n) b W Br=if okW W n=false then 3 else if Lay.brTo (bnd s n) s.size Br Br.length=false then 4 else if anyB (clsOf s n) (nix (bix s n) ((bix s n).length - 2))=true then 5 else 0:=by
 have h2:=second_last h;rw[chk,if_neg (by omega),if_neg (by omega),h2.2,early_anyB (Dec.pos_mono s),show min n (nix (bix s n) ((bix s n).length - 2))=nix (bix s n) ((bix s n).length - 2) by have:=h2.1;omega];unfold okW;by_cases h1:W.length=n
 ·cases h3:Lay.wOk W n
  ·rw[if_pos (.inr rfl),if_pos (by simp)]
  ·rw[if_neg (show ¬(W.length≠n∨true=false) by simp[h1]),if_neg (show ¬((decide (W.length=n) && true)=false) by simp[h1])]
 ·rw[if_pos (.inl h1),if_pos (by simp[h1])]
set_option maxRecDepth 10000 in
set_option maxHeartbeats 4000000 in
theorem ckP_rest (s:ByteArray)(b:Int)(vW vB:Value)(W Br:List Int)(n:Nat)(w:World)(hs:s.size≤400)(hb:b=0∨b=1∨b=2)(hF:Floor w)(hend:Dec.Ends s n)(hW:slAt w vW W)(hWl:W.length≤5000)(hB:slAt w vB Br)(hBl:Br.length≤5000) :
 Calls Tryz.prog 162 #[.agg #[.string s,.int .i64 b,vW,vB]] w fun e w'=>∃v,e=.returned v∧((v=.nilIface∧chk s n (clsOf s n) b W Br=0)∨(chk s n (clsOf s n) b W Br≠0∧faultAt w' v (chk s n (clsOf s n) b W Br)))∧Fr [] w w':=by
 obtain⟨R,hR⟩:∃R,R=chk s n (clsOf s n) b W Br:=⟨_,rfl⟩;rw[←hR];have HR:=hid (hR.trans (chk_in hend hs hb));have hn4:n≤400:=by have:=Dec.le_pos s n;have:=hend.1;omega
 obtain⟨wb,hwb⟩:∃wb,wb=w.alloc (.cells #[.string s,.int .i64 b,vW,vB] 35):=⟨_,rfl⟩;have HFb:=hid (show Fr [] w wb by rw[hwb];exact(Fr.refl [] w).alloc _);have HOB:=hid (show wb.heap[w.heap.size]?=some (.cells #[.string s,.int .i64 b,vW,vB] 35 (0,0)) by rw[hwb];exact obj_new w _);have HFL:=hid (fun(X:World) (hf:Fr [] w X)=>hF.fr hf);have H31:=hid (check_ok s b wb hs hb);have H193:=hid (ckW_any s n W vW wb hs hend (hW.fr HFb.out) hWl (HFL.out wb HFb.out).e5 (HFL.out wb HFb.out).e6);have H194:=hid (fun(X:World) (hf:Fr [] w X)=>Cls.fn25_any s X (by omega) (HFL.out X hf).t9);have H195:=hid (fun(X:World) (hf:Fr [] w X) g c (hr:rowAt X g (bnd s n).length (bnd s n))=>ckB_any (bnd s n) s.size (rises_bnd hend) ⟨by omega,by omega⟩ Br vB g c X (by have:=(bnd_len s n).2;omega) hr (hB.fr hf) hBl (HFL.out X hf).e7 (HFL.out X hf).e8);have H196:=hid (fun(X:World) (hf:Fr [] w X) g c (hr:rowAt X g (bnd s n).length (bnd s n))=>early_any s n _ (bnd s n) g c X hs hend (second_last hend).1 (by have:=(bnd_len s n).2;omega) (bnd_len s n).1 hr (second_last hend).2 (HFL.out X hf).t3 (HFL.out X hf).t4);have HE:=hid hend;have hbl:=bnd_len s n;have HBE:=hid hbl;obtain⟨nb,hnb⟩:∃nb,nb=(bnd s n).length:=⟨_,rfl⟩;rw[←hnb]at H195 H196 hbl;have HNB:=hid hnb;generalize anyB (clsOf s n) (nix (bix s n) ((bix s n).length - 2))=ea at *;obtain⟨ow,how⟩:∃ow,ow=okW W n:=⟨_,rfl⟩;obtain⟨ob,hob⟩:∃ob,ob=Lay.brTo (bnd s n) s.size Br Br.length:=⟨_,rfl⟩;rw[←how]at H193 HR;rw[←hob]at H195 HR;clear hR hend hW hB hF hnb how hob hb;go_enter Tryz.func162,Tryz.ntmps162;go_wp2_with fail;rw[←hwb];have k0:=obj_cell HOB.out (i:=0) rfl;have k2:=obj_cell HOB.out (i:=2) rfl;clear hwb;refine H31.out.mono ?_;rintro e w1 ⟨rfl,rfl⟩;go_wp2_with fail;refine H193.out.mono ?_;rintro e w2 ⟨x,rfl,hx,hf2⟩;have HF2:=hid (HFb.out.trans hf2);have HOB2:=hid (obj_fr HOB.out hf2 List.not_mem_nil);clear hf2 k0 k2 H193 H31
 rcases hx with⟨t,u,rfl,rfl⟩ | ⟨rfl,rfl⟩
 ·have HRv:=hid (show R=3 by rw[HR.out,if_pos rfl])
  go_wp2;go_ret;exact⟨_,rfl,.inr ⟨by rw[HRv.out];decide,_,rfl,by rw[HRv.out];simp⟩,HF2.out.alloc _⟩
 ·have HR2:=hid (show R=if ob=false then 4 else if ea=true then 5 else 0 by rw[HR.out,if_neg (by simp)])
  have k0:=obj_cell HOB2.out (i:=0) rfl;have H4:=hid (H194.out w2 HF2.out);clear HR;go_wp2_with fail;refine H4.out.mono ?_;rintro e w3 ⟨n',v,hn',rfl,own,hb3⟩;obtain rfl:=Dec.ends_unique HE.out hn';have HF3:=hid (HF2.out.trans (Fr.of_below (S:=[]) hb3));have HOB3:=hid (obj_fr HOB2.out (Fr.of_below (S:=[]) hb3) List.not_mem_nil);have own':=own;rw[←HNB.out]at own';obtain⟨gB,cB,hv⟩:=owns_shape (by omega) own';subst hv;have HRW:=hid (show rowAt w3 gB nb (bnd s n)from fun j hj=>by rw[own'.cellAt j (by omega),ints64_at (by rw[←HNB.out];exact hj)]);have H5:=hid (H195.out w3 HF3.out gB cB HRW.out);clear own own' hb3 hn' H4 k0;have k3:=obj_cell HOB3.out (i:=3) rfl;go_wp2_with fail;refine H5.out.mono ?_;rintro e w4 ⟨x,rfl,hx,hf4⟩;have HF4:=hid (HF3.out.trans hf4);have HOB4:=hid (obj_fr HOB3.out hf4 List.not_mem_nil);have HRW4:=hid (HRW.out.fr hf4 List.not_mem_nil);clear hf4 k3 H5
  rcases hx with⟨t,u,rfl,rfl⟩ | ⟨rfl,rfl⟩
  ·have HRv:=hid (show R=4 by rw[HR2.out,if_pos rfl])
   go_wp2;go_ret;exact⟨_,rfl,.inr ⟨by rw[HRv.out];decide,_,rfl,by rw[HRv.out];simp⟩,HF4.out.alloc _⟩
  ·have HR3:=hid (show R=if ea=true then 5 else 0 by rw[HR2.out,if_neg (by simp)])
   have k0:=obj_cell HOB4.out (i:=0) rfl;have H6:=hid (H196.out w4 HF4.out gB cB HRW4.out);cases ea
   ·have HRv:=hid (show R=0 by rw[HR3.out];rfl)
    go_wp2_with (go_at_call 203;refine H6.out.mono ?_;rintro e w5 ⟨rfl,hf5⟩;have HF5:=hid (HF4.out.trans hf5);clear hf5);go_ret;exact⟨_,rfl,.inl ⟨rfl,HRv.out⟩,HF5.out⟩
   ·have HRv:=hid (show R=5 by rw[HR3.out];rfl)
    go_wp2_with (go_at_call 203;refine H6.out.mono ?_;rintro e w5 ⟨rfl,hf5⟩;have HF5:=hid (HF4.out.trans hf5);clear hf5);go_ret;exact⟨_,rfl,.inr ⟨by rw[HRv.out];decide,_,rfl,by rw[HRv.out];simp⟩,HF5.out.alloc _⟩
end Go.Proofs.YtnakejhohdbfdaaGreatDoor
namespace Go.Proofs.YtnakejhohdbfdaaGreatDoor
open Go.RowKit Lev Lay
set_option maxRecDepth 10000 in
set_option maxHeartbeats 2000000 in
theorem ended_nil (v:Value)(w:World):Calls Tryz.prog 164 #[v,.int .i64 0,.int .i64 0] w fun e w'=>e=.returned (.slice none 0 0)∧w'=w:=by
 go_enter Tryz.func164,Tryz.ntmps164;go_wp2_with fail;go_loop [7,8] (fun a b=>a=.slice none 0 0∧b=.int .i64 0) (fun _ _=>0)
 case atStart=>exact⟨rfl,rfl⟩
 case round =>
  obtain⟨rfl,rfl⟩:=hrel;go_wp2;go_ret;exact⟨rfl,rfl⟩
set_option maxRecDepth 10000 in
set_option maxHeartbeats 2000000 in
theorem ord_nil (w:World):Calls Tryz.prog 165 #[.slice none 0 0] w fun e w'=>e=.returned (.slice none 0 0)∧w'=w:=by
 go_enter Tryz.func165,Tryz.ntmps165;go_wp2_with fail;go_loop [3,4,5] (fun a b c=>a=.slice none 0 0∧b=.int .i64 0∧c=.int .i64 0) (fun _ _ _=>0)
 case atStart=>exact⟨rfl,rfl,rfl⟩
 case round =>
  obtain⟨rfl,rfl,rfl⟩:=hrel;go_wp2_with fail;go_loop [6] (fun a=>a=.int .i64 0) (fun _=>0)
  case atStart=>rfl
  case round =>
   obtain rfl:=hrel;go_wp2;go_ret;exact⟨rfl,rfl⟩
theorem line_one0 (a b:Int)(c d:Option Addr)(e f g h:Nat):∀u∈[Value.int .i64 a,.int .i64 b,.slice c e f,.slice d g h],u.oneCell'=true:=by
 intro u hu;simp only[List.mem_cons,List.not_mem_nil,or_false]at hu
 rcases hu with rfl | rfl | rfl | rfl <;> rfl
set_option maxRecDepth 10000 in
set_option maxHeartbeats 4000000 in
theorem line_nil (WB w:World)(lb p gB cB:Nat)(vW:Value)(s:ByteArray)(base:Int)(U:Nat)(hL:LD WB w U lb s base (.slice none 0 0) (.slice none 0 0) [] [] [])(hU:U≤w.heap.size)(c0:w.cell? ⟨p,0,none⟩=some (.slice none 0 0)) :
 Calls Tryz.prog 96 #[.pointer (some ⟨lb,0,none⟩),.pointer (some ⟨p,0,none⟩),vW,.slice (some ⟨gB,0,none⟩) 1 cB,.int .i64 0,.int .i64 0] w
  fun e w'=>e=.returned (.tuple #[])∧∃vC' vL' hs',LD WB w' w'.heap.size lb s base vC' vL' [] [⟨0,0,[],[0]⟩] hs':=by
 obtain⟨i51,hi51,hx0,hx1,hx2⟩:=info_parts info51;have HL:=hid hL;have m2:=obj_cell hL.obj (i:=2) rfl;have m3:=obj_cell hL.obj (i:=3) rfl;have f3:=obj_froz hL.obj 3;have hsz:=hL.fr.size;have hlb:=obj_lt hL.obj;have hlw:=hL.lt;clear hL;go_enter Tryz.func96,Tryz.ntmps96;go_wp2_with fail;go_loop [12] (fun a=>a=.int .i64 0) (fun _=>0)
 case atStart=>rfl
 case round =>
  obtain rfl:=hrel;go_wp2_with fail;go_loop [13] (fun a=>a=.int .i64 0) (fun _=>0)
  case atStart=>rfl
  case round =>
   obtain rfl:=hrel;go_wp2_with (go_at_call 164;refine(ended_nil _ _).mono ?_;rintro e w' ⟨rfl,rfl⟩);go_loop [16,17] (fun a b=>a=.slice none 0 0∧b=.int .i64 0) (fun _ _=>0)
   case atStart=>exact⟨rfl,rfl⟩
   case round =>
    obtain⟨rfl,rfl⟩:=hrel;go_wp2_with (go_at_call 165;refine(ord_nil _).mono ?_;rintro e w' ⟨rfl,rfl⟩);obtain⟨wx,hwx⟩:∃wx,wx=w'.alloc (.cells #[.int .i64 0] 2):=⟨_,rfl⟩;have HLx:=hid (show LD WB wx U lb s base (.slice none 0 0) (.slice none 0 0) [] [] [] by rw[hwx];exact HL.out.fr0 ((Fr.refl [] _).alloc _));have HXx:=hid (show wx.ownsRow w'.heap.size 2 1 (.slice (some ⟨w'.heap.size,0,none⟩) 1 1) 1 (ints64 [0]) by rw[hwx];exact World.ownsRow_lit (base:=w'.heap.size) (e:=2) (size:=1) w' #[.int .i64 0] 1 (Nat.le_refl _) (by decide) rfl);have hszx:w'.heap.size≤wx.heap.size:=by rw[hwx];simp
    rw[←hwx];clear hwx m2 m3 f3;have m3:=obj_cell HLx.out.obj (i:=3) rfl;go_loop [21,22] (fun a b=>a=.slice (some ⟨w'.heap.size,0,none⟩) 1 1∧b=.int .i64 0) (fun _ _=>0)
    case atStart=>exact⟨rfl,rfl⟩
    case round =>
     obtain⟨rfl,rfl⟩:=hrel;go_wp2_with (at_builtin;refine wpList_append_own _ rfl _ _ 43 rfl WB.heap.size 51 i51 _ 4 64 Tryz.underlying43 hi51 hx0 hx1 hx2 rfl (by decide) _ 0 [] rfl ?own _ 1 1 [.int .i64 0,.int .i64 0,.slice none 0 0,.slice (some ⟨w'.heap.size,0,none⟩) 1 1] rfl rfl (news_at _ _ _ _ (by simp)) (line_one0 _ _ _ _ _ _ _ _) (by decide) (by decide) ?szz ?_)
     case own=>exact World.ownsRow_nil _ _ _ _
     case szz=>first | omega | (simp;omega)
     intro v' w2 hown hgrow hnil;obtain⟨g',c',hv'⟩:=owns_shape (by omega) hown;subst hv';have HXX:=hid (HLx.out.line ⟨0,0,[],[0]⟩ rfl ((Fr.refl [] wx).alloc _) (U':=w2.heap.size) (vO:=.slice none 0 0) (by have h5:=hgrow.size;simp at h5;omega) (World.ownsRow_nil _ _ _ _) (owns_low HXx.out (by omega)) (by have h5:=hgrow.size;simp at h5;omega) hown hgrow);have g1:=obj_cell HXX.out.1 (i:=3) rfl;have g2:=obj_froz HXX.out.1 3;clear hown hgrow hnil m3;go_wp2;go_end0;have h9:=HXX.out.2;have e9:∀(X:World) (v:Value),(X.setCell ⟨lb,3,none⟩ v).heap.size=X.heap.size:=fun X v=>by simp
     rw[e9];exact⟨rfl,_,_,_,h9⟩
end Go.Proofs.YtnakejhohdbfdaaGreatDoor
namespace Go.Proofs.YtnakejhohdbfdaaGreatDoor
open Go.RowKit Lev
structure RW (W wr:World)(v:Value)(rs:List (List Nat))(hs:List Value)(B:Nat):Prop where
 fr:Fr [] W wr
 own:wr.ownsRow W.heap.size 22 1 v rs.length hs
 b0:W.heap.size≤B∧B≤wr.heap.size
 old:∀j,j+1<rs.length→∃g c,hs[j]?=some (.slice (some ⟨g,0,none⟩) (run rs j).length c)∧g<B∧wr.ownsRow W.heap.size 3 1 (.slice (some ⟨g,0,none⟩) (run rs j).length c) (run rs j).length (intsN (run rs j))
 last:∀j,j+1=rs.length→∃g c,hs[j]?=some (.slice (some ⟨g,0,none⟩) (run rs j).length c)∧wr.ownsRow B 3 1 (.slice (some ⟨g,0,none⟩) (run rs j).length c) (run rs j).length (intsN (run rs j))
 nl:rs.length=0→v=.slice none 0 0
theorem RW.fr0 {W wr w':World}{v:Value}{rs:List (List Nat)}{hs:List Value}{B:Nat}(h:RW W wr v rs hs B)(hf:Fr [] wr w'):RW W w' v rs hs B :=
 ⟨h.fr.trans hf,owns_fr0 h.own hf,⟨h.b0.1,Nat.le_trans h.b0.2 hf.size⟩,
  fun j hj=>by obtain⟨g,c,a1,a2,a3⟩:=h.old j hj;exact⟨g,c,a1,a2,owns_fr0 a3 hf⟩,
  fun j hj=>by obtain⟨g,c,a1,a2⟩:=h.last j hj;exact⟨g,c,a1,owns_fr0 a2 hf⟩,h.nl⟩
theorem RW.start (W:World):RW W W (.slice none 0 0) [] [] W.heap.size :=
 ⟨Fr.refl _ _,World.ownsRow_nil _ _ _ _,⟨Nat.le_refl _,Nat.le_refl _⟩,fun j h=>absurd h (by simp),fun j h=>absurd h (by simp),fun _=>rfl⟩
theorem RW.len {W wr:World}{v:Value}{rs:List (List Nat)}{hs:List Value}{B:Nat}(h:RW W wr v rs hs B):hs.length=rs.length:=by have:=h.own.1;omega
theorem run_set {rs:List (List Nat)}{m:Nat}(hm:m<rs.length)(r:List Nat)(j:Nat):run (rs.set m r) j=if j=m then r else run rs j:=by
 unfold run;by_cases h:j=m
 ·subst h;rw[List.getElem?_set_self hm,if_pos rfl];rfl
 ·rw[List.getElem?_set_ne (fun e=>h e.symm),if_neg h]
theorem run_snoc (rs:List (List Nat))(r:List Nat)(j:Nat)(hj:j≤rs.length):run (rs++[r]) j=if j=rs.length then r else run rs j:=by
 unfold run;by_cases h:j=rs.length
 ·subst h;rw[if_pos rfl];simp
 ·rw[if_neg h,List.getElem?_append_left (by omega)]
theorem RW.grow {W wr w1 w2:World}{rs:List (List Nat)}{hs:List Value}{B n m o cap g c l i:Nat}{r:List Nat}{v':Value}(h:RW W wr (.slice (some ⟨o,0,none⟩) n cap) rs hs B)(hn:n=rs.length)(hm:n=m+1)
 (ho0:wr.ownsRow B 3 1 (.slice (some ⟨g,0,none⟩) l c) l (intsN r)) (hl:l=r.length) (hf:Fr [] wr w1)
 (ho:w2.ownsRow B 3 1 v' (l+1) (intsN r++[.int .i64 (i:Nat)])) (hg:w1.grownBy w2 (some g)):RW W (w2.setCell ⟨o,m,none⟩ v') (.slice (some ⟨o,0,none⟩) n cap) (rs.set m (r++[i])) (hs.set m v') B:=by
 have h1:=h.fr0 hf;have hB:=(owns_at ho0).1;have hml:m<rs.length:=by omega
 have hao:o≠g:=owns_apart h1.own (owns_fr0 ho0 hf) (by decide) rfl rfl;have hown:=h1.own;rw[←hn]at hown;have hown2:=owns_grown hown hg (fun x hx e=>hao (by cases hx;cases e;rfl));obtain⟨hst,hgr⟩:=hown2.stored m v';have hfo:W.heap.size≤o:=(owns_at hown).1;have hvs:=owns_shape (by omega) ho;obtain⟨g',c',rfl⟩:=hvs;have hog':o≠g':=owns_apart hown2 ho (by decide) rfl rfl;refine⟨(h1.fr.grown hg (fun k e=>by cases e;have:=h1.b0.1;omega)).grown hgr (fun k e=>by cases e;exact hfo),?_,⟨h1.b0.1,?_⟩,fun j hj=>?_,fun j hj=>?_,fun h0=>?_⟩
 ·rw[List.length_set,←hn];exact hst
 ·have:=h1.b0.2;have:=hg.size;have:=hgr.size;omega
 ·rw[List.length_set]at hj
  obtain⟨gj,cj,a1,a2,a3⟩:=h1.old j hj;refine⟨gj,cj,?_,a2,?_⟩
  ·rw[run_set hml,if_neg (by omega),List.getElem?_set_ne (by omega)];exact a1
  ·rw[run_set hml,if_neg (by omega)]
   have hoj:o≠gj:=owns_apart h1.own a3 (by decide) rfl rfl;exact owns_grown (owns_grown a3 hg (fun x hx e=>by cases hx;have:gj=g:=Option.some.inj e;omega)) hgr (fun x hx e=>by cases hx;cases e;exact hoj rfl)
 ·rw[List.length_set]at hj
  have hjm:j=m:=by omega
  subst hjm;refine⟨g',c',?_,?_⟩
  ·rw[List.getElem?_set_self (by rw[h.len];omega),run_set hml,if_pos rfl,List.length_append,hl];rfl
  ·rw[run_set hml,if_pos rfl,List.length_append,←intsN_snoc]
   rw[hl]at ho;exact owns_grown ho hgr (fun x hx e=>by cases hx;cases e;exact hog' rfl)
 ·rw[List.length_set]at h0;omega
theorem RW.new {W wr w2 w3:World}{v v':Value}{rs:List (List Nat)}{hs:List Value}{B b l c:Nat}{r:List Nat}(h:RW W wr v rs hs B)(hf:Fr [] wr w2)(hl:l=r.length)(hb:w2.ownsRow wr.heap.size 3 1 (.slice (some ⟨b,0,none⟩) l c) l (intsN r))
 (ho:w3.ownsRow W.heap.size 22 1 v' (rs.length+1) (hs++[.slice (some ⟨b,0,none⟩) l c])) (hg:w2.grownBy w3 v.ownBlock):RW W w3 v' (rs++[r]) (hs++[.slice (some ⟨b,0,none⟩) l c]) wr.heap.size:=by
 have h1:=h.fr0 hf;refine⟨h1.fr.grown hg (fun k e=>(h1.own.lt k e).1),?_,⟨Nat.le_trans h.b0.1 h.b0.2,?_⟩,fun j hj=>?_,fun j hj=>?_,fun h0=>?_⟩
 ·rw[List.length_append];exact ho
 ·have:=hf.size;have:=hg.size;omega
 ·rw[List.length_append]at hj
  simp only[List.length_singleton]at hj;rw[run_snoc _ _ _ (by omega),if_neg (by omega),List.getElem?_append_left (by rw[h.len];omega)]
  rcases Nat.lt_or_ge (j+1) rs.length with hlt | hge
  ·obtain⟨gj,cj,a1,a2,a3⟩:=h1.old j hlt
   exact⟨gj,cj,a1,by have:=h.b0.2;omega,owns_grown a3 hg (fun x hx e=>owns_apart a3 h1.own (by decide) hx e.symm rfl)⟩
  ·obtain⟨gj,cj,a1,a2⟩:=h1.last j (by omega)
   obtain⟨gk,ck,b1,b2⟩:=h.last j (by omega);rw[a1]at b1;cases b1;exact⟨gj,cj,a1,(owns_at b2).2,owns_grown (owns_low a2 h.b0.1) hg (fun x hx e=>owns_apart a2 h1.own (by decide) hx e.symm rfl)⟩
 ·rw[List.length_append]at hj
  simp only[List.length_singleton]at hj;have hje:j=rs.length:=by omega
  subst hje;rw[run_snoc _ _ _ (by omega),if_pos rfl];subst hl;refine⟨b,c,by rw[←h.len];simp,owns_grown hb hg (fun x hx e=>owns_apart hb h1.own (by decide) hx e.symm rfl)⟩
 ·simp at h0
def rowsAt (w:World)(B:Nat)(v:Value)(rs:List (List Nat)):Prop :=
 (rs.length=0→v=.slice none 0 0)∧(0<rs.length→∃o cap,v=.slice (some ⟨o,0,none⟩) rs.length cap∧B≤o) ∧
 ∀o cap,v=.slice (some ⟨o,0,none⟩) rs.length cap→∀j,j<rs.length→∃g c,w.cell? ⟨o,j,none⟩=some (.slice (some ⟨g,0,none⟩) (run rs j).length c)∧B≤g∧w.ownsRow B 3 1 (.slice (some ⟨g,0,none⟩) (run rs j).length c) (run rs j).length (intsN (run rs j))
theorem RW.rows {W wr:World}{v:Value}{rs:List (List Nat)}{hs:List Value}{B:Nat}(h:RW W wr v rs hs B):rowsAt wr W.heap.size v rs:=by
 refine⟨h.nl,fun hp=>?_,fun o cap hv j hj=>?_⟩
 ·obtain⟨o,cap,rfl⟩:=owns_shape hp h.own
  exact⟨o,cap,rfl,(owns_at h.own).1⟩
 ·subst hv
  have hc:=h.own.cellAt j (by omega)
  rcases Nat.lt_or_ge (j+1) rs.length with hlt | hge
  ·obtain⟨g,c,a1,a2,a3⟩:=h.old j hlt
   exact⟨g,c,by rw[hc,a1],(owns_at a3).1,a3⟩
  ·obtain⟨g,c,a1,a2⟩:=h.last j (by omega)
   have:=owns_low a2 h.b0.1;exact⟨g,c,by rw[hc,a1],(owns_at this).1,this⟩
theorem run_facts (K L:List Int)(i:Nat)(rs:List (List Nat)) :
 (gone (nth K i)=true→runStep K L i rs=rs) ∧
 (gone (nth K i)=false→rs.length=0→runStep K L i rs=rs++[[i]]) ∧
 (∀m,gone (nth K i)=false→rs.length=m+1→nth L (lastN (run rs m))=nth L i→runStep K L i rs=rs.set m (run rs m++[i])) ∧
 (∀m,gone (nth K i)=false→rs.length=m+1→¬nth L (lastN (run rs m))=nth L i→runStep K L i rs=rs++[[i]]):=by
 refine⟨fun h=>?_,fun h h0=>?_,fun m h h0 h1=>?_,fun m h h0 h1=>?_⟩
 ·rw[runStep,if_pos h]
 ·have:rs=[]:=List.length_eq_zero_iff.1 h0
  subst this;rw[runStep,if_neg (by rw[h];exact Bool.false_ne_true),if_pos rfl];rfl
 ·have hne:rs≠[]:=by intro e;subst e;simp at h0
  rw[runStep,if_neg (by rw[h];exact Bool.false_ne_true),if_neg hne,h0];simp only[Nat.add_sub_cancel];rw[if_pos h1]
 ·have hne:rs≠[]:=by intro e;subst e;simp at h0
  rw[runStep,if_neg (by rw[h];exact Bool.false_ne_true),if_neg hne,h0];simp only[Nat.add_sub_cancel];rw[if_neg h1]
theorem hdr_one (v:Value)(h:v.oneCell'=true):∀u∈[v],u.oneCell'=true:=by
 intro u hu;rw[List.mem_singleton]at hu;subst hu;exact h
theorem runs_short (K L:List Int)(k:Nat):(runsTo K L k).length≤k∧∀r∈runsTo K L k,r.length≤k:=by
 have h:=run_inv K L k;have hf:(runsTo K L k).flatten.length≤k:=by
  rw[h.flat,ng];exact Nat.le_trans (List.length_filter_le _ _) (by simp)
 refine⟨?_,fun r hr=>?_⟩
 ·have:∀l:List (List Nat),(∀r∈l,r≠[])→l.length≤l.flatten.length:=by
   intro l
   induction l with
   | nil=>simp
   | cons a l ih =>
     intro hl;have h1:=ih (fun r hr=>hl r (List.mem_cons_of_mem _ hr));have h2:0<a.length:=List.length_pos_iff.2 (hl a List.mem_cons_self);rw[List.length_cons,List.flatten_cons,List.length_append];omega
  have:=this _ h.ne;omega
 ·have:r.length≤(runsTo K L k).flatten.length:=(List.sublist_flatten_of_mem hr).length_le
  omega
set_option linter.unusedSimpArgs false in
set_option maxRecDepth 10000 in
set_option maxHeartbeats 4000000 in
theorem ref33_any (q:PH)(C L:List Int)(w:World)(hK:q.K.length=q.n)(hn:q.n≤1000000)(G:List Bool)(hG:∀i,i<q.n→(G[i]?).getD false=gone (nth q.K i))(hs:PS w q C L G) :
 Calls Tryz.prog 85 #[.pointer (some ⟨q.p,0,none⟩)] w fun e w'=>∃v,e=.returned v∧rowsAt w' w.heap.size v (runsTo q.K L q.K.length)∧Fr [] w w':=by
 obtain⟨i0,hi,hz0,hz1,hz2⟩:=info_parts info3;obtain⟨i1,hi1,hy0,hy1,hy2⟩:=info_parts info22;have hlp:=hs.lt;have HS:=hid hs;have HG:=hid hG;have HK:=hid hK;obtain⟨Z,hZ⟩:∃Z,Z=runsTo q.K L q.K.length:=⟨_,rfl⟩;rw[←hZ];have HZ:=hid hZ;clear hs hG hK hZ;go_enter Tryz.func85,Tryz.ntmps85;go_wp2;go_loopw [3,4] (fun v ii wr=>∃(i B:Nat) (hs:List Value),ii=.int .i64 i∧i≤q.n∧Hid (RW w wr v (runsTo q.K L i) hs B)) (fun _ ii _=>q.n - (intOf ii).toNat)
 case atStart=>exact⟨0,_,_,rfl,Nat.zero_le _,hid (RW.start w)⟩
 case round =>
  obtain⟨i,B,hs,rfl,hin,HR⟩:=hrel;have HP:=hid (HS.out.fr0 HR.out.fr);have d2:=HP.out.c2;by_cases hlt:i<q.n
  ·have d5:=HP.out.c5
   have e5:=HP.out.rG i hlt;rw[HG.out i hlt]at e5;have HFA:=hid (run_facts q.K L i (runsTo q.K L i));have HNX:=hid (show runsTo q.K L (i+1)=runStep q.K L i (runsTo q.K L i)from rfl);rw[←HNX.out]at HFA;have HINV:=hid (run_inv q.K L i);have hshort:=runs_short q.K L i;have HSH:=hid hshort.2;have hsh:=hshort.1;clear hshort;generalize runsTo q.K L i=rs at *;cases hg:gone (nth q.K i)
   ·rw[hg]at e5
    obtain⟨a1,c1,hv1⟩:=owns_slice HR.out.own;obtain⟨n,hn'⟩:∃n,n=rs.length:=⟨_,rfl⟩;rw[←hn']at hv1 hsh;have HN:=hid hn';subst hv1;clear hn'
    rcases Nat.eq_zero_or_pos n with h0 | h0
    ·subst h0
     have hnil:=HR.out.nl HN.out.symm;cases hnil;have HNN:=hid (HFA.out.2.1 hg HN.out.symm);clear HFA hg;go_wp2_with (at_builtin;refine wpList_append_own _ rfl _ _ 98 rfl w.heap.size 22 i1 _ 1 24 Tryz.underlying98 hi1 hy0 hy1 hy2 rfl (by decide) _ 0 hs rfl ?own _ 1 1 [.slice (some ⟨wr.heap.size,0,none⟩) 1 1] rfl rfl (news_at _ _ _ _ (by simp)) (hdr_one _ rfl) (by unfold maxLen;omega) (by omega) ?szz ?_)
     case own=>exact owns_fr0 (by have:=HR.out.own;rw[←HN.out]at this;exact this) (((Fr.refl [] wr).alloc _).alloc _)
     case szz=>have:=HR.out.fr.size;simp;omega
     intro v' w3 own3 hgrow hnil;have HR3:=hid (HR.out.new (r:=[i]) (((Fr.refl [] wr).alloc _).alloc _) rfl ((World.ownsRow_lit (base:=wr.heap.size) (e:=3) (size:=1) wr #[.int .i64 i] 1 (Nat.le_refl _) (by decide) rfl).alloc _) (by rw[←HN.out];exact own3) hgrow);clear own3 hgrow hnil;go_wp2;go_roundw
     case rel=>exact⟨i+1,_,_,by go_num,by omega,hid (by rw[HNN.out];exact HR3.out)⟩
     case measure=>simp[intOf];omega
    ·obtain⟨m,hm⟩:∃m,n=m+1:=⟨n - 1,by omega⟩
     have hown:=HR.out.own;rw[←HN.out]at hown;obtain⟨o,cap,hsh2⟩:=owns_shape h0 hown;cases hsh2;obtain⟨g,c,hh,hlown⟩:=HR.out.last m (by rw[←HN.out,hm]);have e1:wr.cell? ⟨o,m,none⟩=some (.slice (some ⟨g,0,none⟩) (run rs m).length c):=by rw[hown.cellAt m (by omega),hh]
     have hrm:run rs m∈rs:=run_mem (by rw[←HN.out];omega);have hne:=HINV.out.ne _ hrm;have hl0:0<(run rs m).length:=List.length_pos_iff.2 hne;have hlm:=lastN_mem hne;have hlq:lastN (run rs m)<q.n:=by
      have h2:lastN (run rs m)∈rs.flatten:=List.mem_flatten.2 ⟨_,hrm,hlm⟩;rw[HINV.out.flat]at h2;have:=(ng_lt _ _ _ h2).1;omega
     have hrl:=HSH.out _ hrm;obtain⟨l,hl⟩:∃l,l=(run rs m).length:=⟨_,rfl⟩;obtain⟨l',hl'⟩:∃l',l=l'+1:=⟨l - 1,by omega⟩;rw[←hl]at e1 hlown hh hrl;have e2:wr.cell? ⟨g,l',none⟩=some (.int .i64 (lastN (run rs m):Nat)):=by
      rw[owns_rowN hlown hl.symm l' (by omega),lastN,←hl,hl'];rfl
     have e3:=HP.out.rL _ hlq;have e4:=HP.out.rL i hlt;have d3:=HP.out.c3;have HF3:=hid (HFA.out.2.2.1 m hg (by rw[←HN.out,hm]));have HF4:=hid (HFA.out.2.2.2 m hg (by rw[←HN.out,hm]));have HOW:=hid hown;have HLO:=hid hlown;have HL:=hid hl;have HMM:=hid hm;have hnm:(n:Int) - 1=(m:Int):=by omega
     have hmn:(m:Int)<(n:Int):=by omega
     have hlI:(l:Int) - 1=(l':Int):=by omega
     have hlI2:(l':Int)<(l:Int):=by omega
     have hnI:(0:Int)<(n:Int):=by omega
     clear hown hlown hg HFA hm hl hl' hh hl0 hrm hne hlm;generalize run rs m=r at *;generalize lastN r=lr at *;by_cases heq:nth L lr=nth L i
     ·have HNN:=hid (HF3.out heq)
      rw[heq]at e3;generalize nth L i=y at *;clear HF3 HF4 heq;go_wp2;go_quiet (fail);go_wp2_with (at_builtin;refine wpList_append_own _ rfl _ _ 22 rfl B 3 i0 _ 1 8 Tryz.underlying22 hi hz0 hz1 hz2 rfl (by decide) _ l (intsN r) rfl ?own _ 1 1 [.int .i64 i] rfl rfl (news_at _ _ _ _ (by simp)) (one_cell _) (by unfold maxLen;omega) (by omega) ?szz ?_)
      case own=>exact owns_fr0 HLO.out (((Fr.refl [] wr).drewN _).alloc _)
      case szz=>have:=HR.out.b0.2;simp;omega
      intro v' w3 own3 hgrow hnil;obtain⟨g',c',hv'⟩:=owns_shape (by omega) own3;subst hv';have hap:o≠g:=owns_apart HOW.out HLO.out (by decide) rfl rfl;have HOW3:=hid (owns_grown (owns_fr0 HOW.out (((Fr.refl [] wr).drewN _).alloc _)) hgrow (fun x hx e=>hap (by cases hx;cases e;rfl)));have f1:∃u,w3.cell? ⟨o,m,none⟩=some u:=by rw[HOW3.out.cellAt m (by have:=HMM.out;omega),List.getElem?_eq_getElem (by rw[HR.out.len,←HN.out];have:=HMM.out;omega)];exact⟨_,rfl⟩
      obtain⟨u,f1⟩:=f1;have f2:=HOW3.out.frozenAt m;have HR3:=hid (HR.out.grow HN.out HMM.out HLO.out HL.out (((Fr.refl [] wr).drewN _).alloc _) own3 hgrow);clear own3 hgrow hnil e1 e2 e3 e4 d2 d3 d5;go_wp2;go_roundw
      case rel=>exact⟨i+1,_,_,by go_num,by omega,hid (by rw[HNN.out];exact HR3.out)⟩
      case measure=>simp[intOf];omega
     ·have HNN:=hid (HF4.out heq)
      generalize nth L i=y at *;generalize nth L lr=y' at *;clear HF3 HF4;go_wp2;go_quiet (fail);go_wp2_with (at_builtin;refine wpList_append_own _ rfl _ _ 98 rfl w.heap.size 22 i1 _ 1 24 Tryz.underlying98 hi1 hy0 hy1 hy2 rfl (by decide) _ n hs rfl ?own _ 1 1 [.slice (some ⟨wr.heap.size,0,none⟩) 1 1] rfl rfl (news_at _ _ _ _ (by simp)) (hdr_one _ rfl) (by unfold maxLen;omega) (by omega) ?szz ?_)
      case own=>exact owns_fr0 HOW.out ((((Fr.refl [] wr).drewN _).alloc _).alloc _)
      case szz=>have:=HR.out.fr.size;simp;omega
      intro v' w3 own3 hgrow hnil;have HR3:=hid (HR.out.new (r:=[i]) ((((Fr.refl [] wr).drewN _).alloc _).alloc _) rfl ((World.ownsRow_lit (base:=wr.heap.size) (e:=3) (size:=1) (wr.drewN _) #[.int .i64 i] 1 (Nat.le_refl _) (by decide) rfl).alloc _) (by rw[←HN.out];exact own3) hgrow);clear own3 hgrow hnil;go_wp2;go_roundw
      case rel=>exact⟨i+1,_,_,by go_num,by omega,hid (by rw[HNN.out];exact HR3.out)⟩
      case measure=>simp[intOf];omega
   ·rw[hg]at e5
    have HNN:=hid (HFA.out.1 hg);clear HFA hg;go_wp2;go_roundw
    case rel=>exact⟨i+1,_,_,by go_num,by omega,hid (by rw[HNN.out];exact HR.out)⟩
    case measure=>simp[intOf];omega
  ·have hie:i=q.n:=by omega
   have HRZ:=hid (show RW w wr _ Z hs B by rw[HZ.out,HK.out,←hie];exact HR.out);clear hie HR;go_wp2;go_ret;exact⟨_,rfl,HRZ.out.rows,HRZ.out.fr⟩
theorem mateI_eq (o:Option Nat)(x:Nat):(mateI o == (x:Int))=(o == some x):=by
 cases o with
 | none=>simp[mateI]
 | some m =>
   by_cases h:m=x
   ·subst h;simp[mateI]
   ·have h1:((m:Int) == (x:Int))=false:=by simp;omega
    have h2:(some m == some x)=false:=by simp[h]
    rw[mateI,h1,h2]
def matesOk (q:PH):Prop:=∀i,i<q.n→ini (nth q.K i)=true→nth q.M i=mateI (mate q.K i)
set_option maxHeartbeats 1000000 in
theorem ref34_any (q:PH)(C L:List Int)(G:List Bool)(ba ca bb cb:Nat)(ra rb:List Nat)(w:World)(hs:PS w q C L G)(ha:rowN w ba ra.length ra)(hb:rowN w bb rb.length rb)
 (ha0:0<ra.length) (hb0:0<rb.length) (hal:ra.length≤1000000) (hlt:lastN ra<q.n) (hM:matesOk q) :
 Calls Tryz.prog 86 #[.pointer (some ⟨q.p,0,none⟩),.slice (some ⟨ba,0,none⟩) ra.length ca,.slice (some ⟨bb,0,none⟩) rb.length cb] w fun e w'=>e=.returned (.bool (follows q.K ra rb))∧∃m,w'=w.drewN m:=by
 have c1:=hs.c1;have c4:=hs.c4;have e1:w.cell? ⟨ba,ra.length - 1,none⟩=some (.int .i64 (lastN ra:Nat)):=ha _ (by omega);have e2:w.cell? ⟨bb,0,none⟩=some (.int .i64 (firstN rb:Nat)):=hb 0 hb0;have e3:=hs.rF _ hlt;have e4:=hs.rM _ hlt;have HM:=hM _ hlt;obtain⟨R,hR⟩:∃R,R=follows q.K ra rb:=⟨_,rfl⟩;rw[←hR];unfold follows at hR;generalize lastN ra=i at *;generalize firstN rb=j at *;generalize nth q.K i=y at *;generalize nth q.M i=z at *;generalize mate q.K i=M at *;have hsub:(((ra.length:Nat):Int) - 1).toNat=ra.length - 1:=by omega
 generalize ra.length=la at *;generalize rb.length=lb at *;clear hs ha hb hM;cases hy:ini y
 ·rw[hy]at hR
  have HR:=hid hR;clear hR HM;obtain⟨d,rfl⟩:∃d,la=d+1:=⟨la - 1,by omega⟩;simp only[Nat.add_sub_cancel]at e1;go_enter Tryz.func86,Tryz.ntmps86;go_wp2_with (go_at_call 41;refine(ref10_any _ _).mono ?_;rintro e w' ⟨rfl,rfl⟩);go_quiet (fail);go_wp2;go_ret;exact⟨retB (by rw[HR.out];rfl),_,rfl⟩
 ·have hz:=HM hy
  rw[hy,←mateI_eq,←hz]at hR;have HR:=hid hR;clear hR HM hz;obtain⟨d,rfl⟩:∃d,la=d+1:=⟨la - 1,by omega⟩;simp only[Nat.add_sub_cancel]at e1;go_enter Tryz.func86,Tryz.ntmps86;go_wp2_with (go_at_call 41;refine(ref10_any _ _).mono ?_;rintro e w' ⟨rfl,rfl⟩);go_quiet (fail);go_wp2;go_ret;exact⟨retB (by rw[HR.out];rfl),_,rfl⟩
theorem lvBehind_stop (K L:List Int)(base:Int)(f j:Nat)(h:¬j<K.length):lvBehind K L base f j=base:=by
 cases f with
 | zero=>rfl
 | succ f=>rw[lvBehind,if_neg h]
theorem lvBehind_gone (K L:List Int)(base:Int)(f j:Nat)(hf:K.length≤j+f)(h:j<K.length)(hg:gone (nth K j)=true):∃f',K.length≤j+1+f'∧lvBehind K L base f j=lvBehind K L base f' (j+1):=by
 cases f with
 | zero=>omega
 | succ f=>exact⟨f,by omega,by rw[lvBehind,if_pos h,if_pos hg]⟩
theorem lvBehind_there (K L:List Int)(base:Int)(f j:Nat)(hf:K.length≤j+f)(h:j<K.length)(hg:gone (nth K j)=false):lvBehind K L base f j=nth L j:=by
 cases f with
 | zero=>omega
 | succ f=>rw[lvBehind,if_pos h,if_neg (by rw[hg];exact Bool.false_ne_true)]
theorem nlp {w:World}{n:Nat}{c:Array Value}{t:TypeId}(h:w.heap[n]?=some (.cells c t (0,0)))(i:Nat)(v:Value)(hv:c[i]?=some v):w.cell? ⟨n,i,none⟩=some v∧w.frozen? ⟨n,i,none⟩=false:=by
 simp[World.cell?,World.frozen?,h,hv]
theorem four_heap (w:World)(b:Nat)(t:TypeId)(a0 a1 a2 a3 x0 x1 x2 x3:Value)(hh:w.heap[b]?=some (.cells #[a0,a1,a2,a3] t (0,0))) :
 ((((w.setCell ⟨b,0,none⟩ x0).setCell ⟨b,1,none⟩ x1).setCell ⟨b,2,none⟩ x2).setCell ⟨b,3,none⟩ x3).heap[b]?=some (.cells #[x0,x1,x2,x3] t (0,0)):=by
 rw[heap_setCell_same _ b 3 _ t x3 (heap_setCell_same _ b 2 _ t x2 (heap_setCell_same _ b 1 _ t x1 (heap_setCell_same _ b 0 _ t x0 hh)))];rfl
theorem fr_four {S:List Nat}{w w':World}(h:Fr S w w')(x0 x1 x2 x3:Value):Fr S w ((((w'.setCell ⟨w.heap.size,0,none⟩ x0).setCell ⟨w.heap.size,1,none⟩ x1).setCell ⟨w.heap.size,2,none⟩ x2).setCell ⟨w.heap.size,3,none⟩ x3):=by
 refine((((((h.mono (T:=w.heap.size :: S) (fun k hk _=>List.mem_cons_of_mem _ hk)).set List.mem_cons_self x0).set List.mem_cons_self x1).set List.mem_cons_self x2).set List.mem_cons_self x3).mono ?_);intro k hk hl
 rcases List.mem_cons.1 hk with h1 | h1
 ·omega
 ·exact h1
set_option maxRecDepth 10000 in
set_option maxHeartbeats 4000000 in
theorem ref15_any (q:PH)(C L:List Int)(G:List Bool)(bI cI:Nat)(I:List Nat)(w:World)(hs:PS w q C L G)(hI:IS w q bI I)(hI0:0<I.length)(hn:q.n≤1000000)(hK:q.K.length=q.n)
 (hG:∀i,i<q.n→G[i]?.getD false=gone (nth q.K i)) (hL:∀i,0≤nth L i) (hB:0≤q.base) :
 Calls Tryz.prog 46 #[.pointer (some ⟨q.p,0,none⟩),.slice (some ⟨bI,0,none⟩) I.length cI] w fun e w'=>e=.returned (sqV bI cI (seqOf q.K L q.base I))∧Fr [] w w':=by
 have c1:=hs.c1;have c2:=hs.c2;have c3:=hs.c3;have c5:=hs.c5;have c6:=hs.c6;have lp:=hs.lt;have sm:=hI.sm;have e1:w.cell? ⟨bI,0,none⟩=some (.int .i64 (firstN I:Nat)):=hI.r 0 hI0;have e2:w.cell? ⟨bI,I.length - 1,none⟩=some (.int .i64 (lastN I:Nat)):=hI.r _ (by omega);have h1:firstN I<q.n:=hI.lt 0 hI0;have h2:lastN I<q.n:=hI.lt _ (by omega);have e3:=hs.rL _ h1;have e4:=hs.rF _ h2;have lI:=World.block_lt_of_cell? _ _ e1;have lL:=hs.ltL (by omega);have lF:=hs.ltF (by omega);have HS:=hid hs;have HG:=hid hG;have HL:=hid hL;have HK:=hid hK;obtain⟨A,hA⟩:∃A,A=lvAhead q.K L q.base (firstN I):=⟨_,rfl⟩;obtain⟨Bh,hBh⟩:∃B,B=lvBehind q.K L q.base q.K.length (lastN I+1):=⟨_,rfl⟩;have HSQ:=hid (show seqOf q.K L q.base I=⟨I,way (nth L (firstN I)),way (max (nth L (firstN I)) A),way (max (nth L (firstN I)) (if ini (nth q.K (lastN I))then q.base else Bh))⟩ by rw[hA,hBh];rfl);have hl0:=hL (firstN I);have HA:=hid hA;have HBh:=hid hBh;obtain⟨S,hS⟩:∃S,S=sqV bI cI (seqOf q.K L q.base I):=⟨_,rfl⟩;rw[←hS];rw[HSQ.out]at hS;dsimp only[sqV]at hS;have HSS:=hid hS;clear hA hBh hS hs hI hG hL hK HSQ;generalize firstN I=fi at *;generalize lastN I=la at *;generalize nth L fi=l at *;generalize nth q.K la=kl at *;obtain⟨d,hd⟩:∃d,I.length=d+1:=⟨I.length - 1,by omega⟩;rw[hd]at e2 sm HSS ⊢;simp only[Nat.add_sub_cancel]at e2;clear hI0 hd;go_enter Tryz.func46,Tryz.ntmps46;go_wp2;go_quiet (fail);go_wp2;go_loopw [6] (fun a wr=>∃(t:Nat),a=.int .i64 ((t:Int) - 1)∧t≤fi∧Hid (A=lvAhead q.K L q.base t)∧Hid (PS wr q C L G)∧Hid (Fr [] w wr)∧Hid (wr.heap[w.heap.size]?=some (.cells #[.slice none 0 0,.int .i64 0,.int .i64 0,.int .i64 0] 101 (0,0)))) (fun a _=>(intOf a+1).toNat)
 case atStart =>
  refine⟨fi,by go_num,Nat.le_refl _,HA,hid (HS.out.fr0 (((Fr.refl _ w).alloc _).drewN _)),hid (((Fr.refl _ w).alloc _).drewN _),hid ?_⟩;exact heap_alloc_new _ _
 case round =>
  obtain⟨t,rfl,ht,HA2,HP,HF,HX⟩:=hrel;have d5:=HP.out.c5;have d6:=HP.out.c6;have d3:=HP.out.c3;have d2:=HP.out.c2;have d1:=HP.out.c1;have lp2:=HP.out.lt;have k1:wr.cell? ⟨bI,0,none⟩=some (.int .i64 fi):=HF.out.cell e1 (by simp);have k2:wr.cell? ⟨bI,d,none⟩=some (.int .i64 la):=HF.out.cell e2 (by simp);have k3:wr.cell? ⟨q.bL,fi,none⟩=some (.int .i64 l):=HF.out.cell e3 (by simp);have k4:wr.cell? ⟨q.bF,la,none⟩=some (.int .i64 kl):=HF.out.cell e4 (by simp);have hex:(∃t',t=t'+1∧gone (nth q.K t')=true)∨(t=0∧A=q.base)∨(∃t',t=t'+1∧t'<q.n∧gone (nth q.K t')=false∧A=nth L t'):=by
   cases t with
   | zero=>exact .inr (.inl ⟨rfl,HA2.out⟩)
   | succ t =>
     cases hg:gone (nth q.K t)
     ·refine .inr (.inr ⟨t,rfl,by omega,hg,?_⟩)
      have:=HA2.out;rw[lvAhead,hg]at this;simpa using this
     ·exact .inl ⟨t,rfl,hg⟩
  obtain⟨t',rfl,hg⟩ | ⟨rfl,hAb⟩ | ⟨t',rfl,htn,hg,hAl⟩:=hex
  ·have htn:t'<q.n:=by omega
   have k5:=HP.out.rG t' htn;rw[HG.out t' htn,hg]at k5;have hc:((t'+1:Nat):Int) - 1=(t':Int):=by omega
   have HA4:=hid (show A=lvAhead q.K L q.base t' by have:=HA2.out;rw[lvAhead,hg]at this;simpa using this);rw[hc];clear hg HA2;go_wp2;go_roundw
   case rel=>exact⟨t',by go_num,by omega,HA4,HP,HF,HX⟩
   case measure=>simp[intOf]
  case' inr.inl =>
   have HAX:=hid hAb;have m1:0≤max l q.base:=by omega
   clear HA2 HA hAb
  case' inr.inr =>
   have k5:=HP.out.rG t' htn;rw[HG.out t' htn,hg]at k5;have hc:((t'+1:Nat):Int) - 1=(t':Int):=by omega
   rw[hc];have k6:=HP.out.rL t' htn;have hA0:0≤nth L t':=HL.out t';have HAX:=hid hAl;clear hAl;generalize nth L t'=A' at *;have m1:0≤max l A':=by omega
   clear HA2 HA hg hc
  all_goals (
   go_wp2
   go_loopw [9] (fun a wr=>∃(j f:Nat),a=.int .i64 (j:Int)∧j≤q.n∧Hid (q.n≤j+f)∧Hid (Bh=lvBehind q.K L q.base f j)∧Hid (PS wr q C L G)∧Hid (Fr [] w wr)∧Hid (wr.heap[w.heap.size]?=some (.cells #[.slice none 0 0,.int .i64 0,.int .i64 0,.int .i64 0] 101 (0,0)))) (fun a _=>q.n - (intOf a).toNat)
   case atStart=>exact⟨la+1,q.n,by go_num,by omega,hid (by omega),hid (by rw[HBh.out,HK.out]),HP,HF,HX⟩
   case round =>
    obtain⟨j,f,rfl,hj,HJF,HB2,HP',HF',HX'⟩:=hrel
    have d5':=HP'.out.c5
    have d6':=HP'.out.c6
    have d3':=HP'.out.c3
    have d2':=HP'.out.c2
    have d1':=HP'.out.c1
    have lp':=HP'.out.lt
    have k1':wr.cell? ⟨bI,0,none⟩=some (.int .i64 fi):=HF'.out.cell e1 (by simp)
    have k4':wr.cell? ⟨q.bF,la,none⟩=some (.int .i64 kl):=HF'.out.cell e4 (by simp)
    obtain⟨x0,y0⟩:=nlp HX'.out 0 _ rfl
    obtain⟨x1,y1⟩:=nlp HX'.out 1 _ rfl
    obtain⟨x2,y2⟩:=nlp HX'.out 2 _ rfl
    obtain⟨x3,y3⟩:=nlp HX'.out 3 _ rfl
    by_cases hjn:j<q.n
    ·have k5':=HP'.out.rG j hjn
     rw[HG.out j hjn]at k5'
     cases hg:gone (nth q.K j)
     ·have HB3:=hid (HB2.out.trans (lvBehind_there q.K L q.base f j (by rw[HK.out];exact HJF.out) (by rw[HK.out];exact hjn) hg))
      rw[hg]at k5'
      clear hg HB2
      have k6':=HP'.out.rL j hjn
      have hB0:=HL.out j
      generalize nth L j=lj at *
      have m2:0≤max l lj:=by omega
      have m3:0≤max l q.base:=by omega
      cases hk:ini kl
      all_goals (
       rw[hk]at HSS
       go_wp2_with (first
        | (go_at_call 41;refine(ref10_any _ _).mono ?_;rintro e w' ⟨rfl,rfl⟩)
        | (go_at_call 87;refine(ref35_any _ _ _).mono ?_;rintro e w' ⟨rfl,rfl⟩)
        | (go_at_call 88;refine(ref36_any _ _ (by assumption)).mono ?_;rintro e w' ⟨rfl,rfl⟩))
       (try simp only[Exit.inBlock,Exit.then])
       refine bodyPost_ret (results_cell_row (t:=101) (fr:=(0,0)) rfl _ _ w.heap.size _ _ rfl (four_heap _ _ _ _ _ _ _ _ _ _ _ HX'.out) Tryz.underlying101 rfl (by kernel_rfl)) rfl ?_
       exact⟨by rw[HSS.out,HAX.out,HB3.out] <;> simp,fr_four HF'.out _ _ _ _⟩)
     ·obtain⟨f',hf',hb'⟩:=lvBehind_gone q.K L q.base f j (by rw[HK.out];exact HJF.out) (by rw[HK.out];exact hjn) hg
      rw[hg]at k5'
      have HB3:=hid (HB2.out.trans hb')
      rw[HK.out]at hf'
      clear hg HB2 hb' x0 x1 x2 x3 y0 y1 y2 y3
      go_wp2
      go_roundw
      case rel=>exact⟨j+1,f',by go_num,by omega,hid (by omega),HB3,HP',HF',HX'⟩
      case measure=>simp[intOf];omega
    ·have HB3:=hid (HB2.out.trans (lvBehind_stop q.K L q.base f j (by rw[HK.out];exact hjn)))
     clear HB2
     have m3:0≤max l q.base:=by omega
     go_wp2_with (first
      | (go_at_call 41;refine(ref10_any _ _).mono ?_;rintro e w' ⟨rfl,rfl⟩)
      | (go_at_call 87;refine(ref35_any _ _ _).mono ?_;rintro e w' ⟨rfl,rfl⟩)
      | (go_at_call 88;refine(ref36_any _ _ (by assumption)).mono ?_;rintro e w' ⟨rfl,rfl⟩))
     (try simp only[Exit.inBlock,Exit.then])
     refine bodyPost_ret (results_cell_row (t:=101) (fr:=(0,0)) rfl _ _ w.heap.size _ _ rfl (four_heap _ _ _ _ _ _ _ _ _ _ _ HX'.out) Tryz.underlying101 rfl (by kernel_rfl)) rfl ?_
     exact⟨by rw[HSS.out,HAX.out,HB3.out] <;> simp,fr_four HF'.out _ _ _ _⟩)
end Go.Proofs.YtnakejhohdbfdaaGreatDoor

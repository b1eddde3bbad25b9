import Derived.Test.YtnakejhohdbfdabGreatDoorKKpS
namespace Go.Proofs.YtnakejhohdbfdabGreatDoor
open Go.RowKit Lev Lay Bnd
theorem pos_norm {Bd V:List Int}{z:Int}{Ls:List Ln}(F:Fine Bd V z Ls)(one:V.length=0→Ls.length=1){l g:Nat}(hl:l<Ls.length)(hg:g≤(lnN Ls l).o.length) :
 placeL Bd z (normP Bd V Ls l g).1 (normP Bd V Ls l g).2=normP Bd V Ls l g∧gapL Bd V z Ls (normP Bd V Ls l g).1 (normP Bd V Ls l g).2=(l,g):=by
 by_cases h0:0<V.length
 ·exact gap_norm F h0 hl hg
 ·have hV:V.length=0:=by omega
  have h1:=one hV;obtain rfl:l=0:=by omega
  have ho:(lnN Ls 0).o.length=0:=by
   rcases Nat.eq_zero_or_pos (lnN Ls 0).o.length with h | h
   ·exact h
   ·have:=(F.on 0 hl (nix (lnN Ls 0).o 0) (nix_mem' h)).1
    omega
  obtain rfl:g=0:=by omega
  have hn:(near ((0:Nat):Int) ((Ls.length:Int) - 1)).toNat=0:=by rw[h1];decide
  have e:normP Bd V Ls ((0:Nat):Int) ((0:Nat):Int)=(0,false):=by
   unfold normP;simp only;rw[hn,if_pos ho]
  rw[e];refine⟨?_,by rw[gapL,if_pos hV]⟩;have hp:=place_bd F.rs (j:=0) (by have:=F.bd;omega) false;rw[if_pos rfl,rises_first F.rs]at hp;exact hp
theorem wk_right {Bd V:List Int}{z r:Int}{Ls:List Ln}{l g:Nat}(hp:placeL Bd z (normP Bd V Ls l g).1 (normP Bd V Ls l g).2=normP Bd V Ls l g)(hg:gapL Bd V z Ls (normP Bd V Ls l g).1 (normP Bd V Ls l g).2=(l,g)) :
 mvP Bd V z r Ls 1 (normP Bd V Ls l g).1 0 (normP Bd V Ls l g).2=if g<(lnN Ls l).o.length then normP Bd V Ls l ((g:Int)+1)else if 0≤(l:Int)+r∧(l:Int)+r<(Ls.length:Int)then normP Bd V Ls ((l:Int)+r) 0 else normP Bd V Ls l g:=by
 unfold mvP;simp only[hg,hp];simp
theorem wk_left {Bd V:List Int}{z r:Int}{Ls:List Ln}{l g:Nat}(hp:placeL Bd z (normP Bd V Ls l g).1 (normP Bd V Ls l g).2=normP Bd V Ls l g)(hg:gapL Bd V z Ls (normP Bd V Ls l g).1 (normP Bd V Ls l g).2=(l,g)) :
 mvP Bd V z r Ls 0 (normP Bd V Ls l g).1 0 (normP Bd V Ls l g).2=if 0<g then normP Bd V Ls l ((g:Int) - 1)else if 0≤(l:Int) - r∧(l:Int) - r<(Ls.length:Int)then normP Bd V Ls ((l:Int) - r) ((lnN Ls ((l:Int) - r).toNat).o.length:Nat)else normP Bd V Ls l g:=by
 unfold mvP;simp only[hg,hp];simp
theorem wk_ne {Bd V:List Int}{z:Int}{Ls:List Ln}(F:Fine Bd V z Ls)(one:V.length=0→Ls.length=1){l g l' g':Nat}(hl:l<Ls.length)(hg:g≤(lnN Ls l).o.length)(hl':l'<Ls.length)(hg':g'≤(lnN Ls l').o.length)(h:(l,g)≠(l',g')):normP Bd V Ls l g≠normP Bd V Ls l' g':=fun e=>by
 have h1:=(pos_norm F one hl hg).2;rw[e,(pos_norm F one hl' hg').2]at h1;exact h h1.symm
def lineAt (K:Nat)(bs:Int)(q:Nat):Nat:=if bs=1 then K - 1 - q else q
def preW (Ls:List Ln)(bs:Int):Nat→Nat
 | 0=>0
 | q+1=>preW Ls bs q+((lnN Ls (lineAt Ls.length bs q)).o.length+1)
def sumX (Ls:List Ln):Nat→Nat
 | 0=>0
 | k+1=>sumX Ls k+(lnN Ls k).x.length
theorem preW_mono (Ls:List Ln)(bs:Int)(q:Nat):∀d,preW Ls bs q+d≤preW Ls bs (q+d)
 | 0=>Nat.le_refl _
 | d+1=>by have:=preW_mono Ls bs q d;rw[show q+(d+1)=(q+d)+1 from rfl,preW];omega
theorem sumX_split (Ls:List Ln)(hx:∀k,k<Ls.length→(lnN Ls k).x.length=(lnN Ls k).o.length+1):∀q,q≤Ls.length→sumX Ls (Ls.length - q)+preW Ls 1 q=sumX Ls Ls.length
 | 0,_=>by simp[preW]
 | q+1,h=>by
   have ih:=sumX_split Ls hx q (by omega);have e:Ls.length - q=(Ls.length - (q+1))+1:=by omega
   rw[e,sumX]at ih;rw[preW,lineAt,if_pos rfl,show Ls.length - 1 - q=Ls.length - (q+1) by omega,←hx _ (by omega)];omega
theorem preW_zero (Ls:List Ln)(hx:∀k,k<Ls.length→(lnN Ls k).x.length=(lnN Ls k).o.length+1):∀q,q≤Ls.length→preW Ls 0 q=sumX Ls q
 | 0,_=>rfl
 | q+1,h=>by
   rw[preW,sumX,preW_zero Ls hx q (by omega),lineAt,if_neg (by decide),hx q (by omega)]
theorem preW_all (Ls:List Ln)(bs:Int)(hb:bs=0∨bs=1)(hx:∀k,k<Ls.length→(lnN Ls k).x.length=(lnN Ls k).o.length+1):preW Ls bs Ls.length=sumX Ls Ls.length:=by
 rcases hb with rfl | rfl
 ·exact preW_zero Ls hx _ (Nat.le_refl _)
 ·have:=sumX_split Ls hx Ls.length (Nat.le_refl _)
  rw[Nat.sub_self,sumX]at this;omega
theorem lineAt_lt {K:Nat}{bs:Int}{q:Nat}(h:q<K):lineAt K bs q<K:=by unfold lineAt;split <;> omega
theorem lineAt_next {K:Nat}{bs r:Int}(hb:bs=0∨bs=1)(hr:r=1 - 2 * bs){q:Nat}(h:q+1<K):((lineAt K bs q:Nat):Int)+r=(lineAt K bs (q+1):Nat):=by
 rcases hb with rfl | rfl <;> simp[lineAt] <;> omega
theorem lineAt_last {K:Nat}{bs r:Int}(hb:bs=0∨bs=1)(hr:r=1 - 2 * bs){q:Nat}(h:q+1=K):¬(0≤((lineAt K bs q:Nat):Int)+r∧((lineAt K bs q:Nat):Int)+r<(K:Int)):=by
 rcases hb with rfl | rfl <;> simp[lineAt] <;> omega
theorem wk_step {Bd V:List Int}{z r bs:Int}{Ls:List Ln}(F:Fine Bd V z Ls)(one:V.length=0→Ls.length=1)(hb:bs=0∨bs=1)(hr:r=1 - 2 * bs){q g:Nat}(hq:q<Ls.length)(hg:g≤(lnN Ls (lineAt Ls.length bs q)).o.length)(hC:¬(g=(lnN Ls (lineAt Ls.length bs q)).o.length∧q+1=Ls.length)) :
 ∃q' g',q'<Ls.length∧g'≤(lnN Ls (lineAt Ls.length bs q')).o.length ∧
  mvP Bd V z r Ls 1 (normP Bd V Ls (lineAt Ls.length bs q:Nat) g).1 0 (normP Bd V Ls (lineAt Ls.length bs q:Nat) g).2=normP Bd V Ls (lineAt Ls.length bs q':Nat) g' ∧
  mvP Bd V z r Ls 0 (normP Bd V Ls (lineAt Ls.length bs q':Nat) g').1 0 (normP Bd V Ls (lineAt Ls.length bs q':Nat) g').2=normP Bd V Ls (lineAt Ls.length bs q:Nat) g ∧
  normP Bd V Ls (lineAt Ls.length bs q:Nat) g≠normP Bd V Ls (lineAt Ls.length bs q':Nat) g' ∧
  preW Ls bs q'+g'=preW Ls bs q+g+1∧((q'=q∧g'=g+1∧g<(lnN Ls (lineAt Ls.length bs q)).o.length)∨(q'=q+1∧g'=0∧g=(lnN Ls (lineAt Ls.length bs q)).o.length)):=by
 have hl:=lineAt_lt (bs:=bs) hq;have h1:=pos_norm F one hl hg;by_cases hlt:g<(lnN Ls (lineAt Ls.length bs q)).o.length
 ·have h2:=pos_norm F one hl (show g+1≤_ from hlt)
  refine⟨q,g+1,hq,hlt,?_,?_,?_,by omega,.inl ⟨rfl,rfl,hlt⟩⟩
  ·rw[wk_right h1.1 h1.2,if_pos hlt];rfl
  ·rw[wk_left h2.1 h2.2,if_pos (by omega)];congr 1;omega
  ·exact wk_ne F one hl hg hl hlt (fun e=>by have:=congrArg Prod.snd e;simp at this)
 ·have hge:g=(lnN Ls (lineAt Ls.length bs q)).o.length:=by omega
  have hq1:q+1<Ls.length:=by
   rcases Nat.lt_or_eq_of_le (show q+1≤Ls.length from hq)with h | h
   ·exact h
   ·exact absurd ⟨hge,h⟩ hC
  have hl':=lineAt_lt (bs:=bs) hq1;have hn:=lineAt_next hb hr hq1;have h2:=pos_norm F one hl' (Nat.zero_le _);refine⟨q+1,0,hq1,Nat.zero_le _,?_,?_,?_,by rw[preW];omega,.inr ⟨rfl,rfl,hge⟩⟩
  ·rw[wk_right h1.1 h1.2,if_neg hlt,if_pos (by omega),hn];rfl
  ·have e:((lineAt Ls.length bs (q+1):Nat):Int) - r=(lineAt Ls.length bs q:Nat):=by omega
   rw[wk_left h2.1 h2.2,if_neg (by omega),if_pos (by omega),e,Int.toNat_natCast,←hge]
  ·refine wk_ne F one hl hg hl' (Nat.zero_le _) (fun e=>?_)
   have e1:=congrArg Prod.fst e;simp only at e1;have:r≠0:=by rcases hb with rfl | rfl <;> omega
   omega
theorem wk_stop {Bd V:List Int}{z r bs:Int}{Ls:List Ln}(F:Fine Bd V z Ls)(one:V.length=0→Ls.length=1)(hb:bs=0∨bs=1)(hr:r=1 - 2 * bs){q g:Nat}(hq:q<Ls.length)(hC:g=(lnN Ls (lineAt Ls.length bs q)).o.length∧q+1=Ls.length) :
 mvP Bd V z r Ls 1 (normP Bd V Ls (lineAt Ls.length bs q:Nat) g).1 0 (normP Bd V Ls (lineAt Ls.length bs q:Nat) g).2=normP Bd V Ls (lineAt Ls.length bs q:Nat) g:=by
 have h1:=pos_norm F one (lineAt_lt (bs:=bs) hq) (show g≤_ by omega);rw[wk_right h1.1 h1.2,if_neg (by omega),if_neg (lineAt_last hb hr hC.2)]
theorem flag_pair {a b:Int × Bool}(h:a≠b):(!(decide (a.1=b.1∧a.2=b.2)))=true:=by
 have:¬(a.1=b.1∧a.2=b.2):=fun e=>h (Prod.ext e.1 e.2)
 simp[this]
theorem keep_three (s:ByteArray)(b:Int)(W Br:List Int)(n:Nat)(hend:Dec.Ends s n)(hBl:Br.length≤5000)(hck:chk s n (clsOf s n) b W Br=0):∃Bd V X r bs Cs Ls,Twin s b W Br Bd V X r bs Cs Ls∧Tame Bd V Ls∧Fine Bd V (s.size:Nat) Ls∧(0<V.length→Edges s n Br∧0<n∧(bs=0∨bs=1)∧Bd=bnd s n∧V=lvE s n bs Br∧Ls=lns s n bs W Br (Br.length+1))∧(-1≤r∧r≤1)∧(V.length=0→Ls.length=1)∧bs=baseOf (Kl s n) b∧r=1 - 2 * bs∧(bs=0∨bs=1):=by
 obtain⟨hs,hb⟩:=chk_zero' hck;obtain⟨hWl,hw,hbr⟩:=chk_zero hend hs hb hck;by_cases hn:0<n
 ·have hE:=edges_ok hend hn Br hbr
  have hn4:n≤400:=by have:=Dec.le_pos s n;have:=hend.1;omega
  have hcn:cn s n≤400:=by have:=bix_len s n;unfold cn;omega
  have hB4:Br.length+1≤400:=by
   have h1:=ei_ge hE (Br.length+1) (Nat.le_refl _);have h2:=hE.le (Br.length+1) (Nat.le_refl _);unfold eiOf at h1;omega
  have hvl:(lvE s n (baseOf (Kl s n) b) Br).length=cn s n:=by rw[lvE,lvs_len,←cn_begs hn]
  have hc0:0<cn s n:=by
   have h1:=ei_ge hE (Br.length+1) (Nat.le_refl _);have h2:=hE.le (Br.length+1) (Nat.le_refl _);unfold eiOf at h1;omega
  have hWB:∀i,0≤nth W i∧nth W i≤1073741824:=fun i=>by
   by_cases hi:i<n
   ·exact wOk_at hw hi
   ·rw[nth_over (by omega)];decide
  refine⟨bnd s n,lvE s n (baseOf (Kl s n) b) Br,wl s W n,1 - 2 * baseOf (Kl s n) b,baseOf (Kl s n) b,clst (Dec.pos s) (nix (bix s n)) (evOf s n (baseOf (Kl s n) b) Br) W (cn s n),lns s n (baseOf (Kl s n) b) W Br (Br.length+1),?_,tame_pos hn hn4 (base_01 hb) hWB hE hcn,fine_pos hend hn hE,fun _=>⟨hE,hn,base_01 hb,rfl,rfl,rfl⟩,by rcases base_01 (K:=Kl s n) hb with h | h <;> rw[h] <;> decide,fun h=>by rw[hvl]at h;omega,rfl,rfl,base_01 hb⟩
  exact {
   vx:=by rw[hvl,wl_len,←cn_begs hn]
   bd:=by have:=(bix_len s n).2.1;rw[hvl,bnd_length hend];unfold cn;omega
   vl:=by rw[hvl];exact hcn
   cs:=by rw[hvl];exact cls_same hend hn (base_01 hb) W Br
   l0:=by rw[lns_len];omega
   l1:=by rw[lns_len];exact hB4
   ll:=lns_small hE hcn _ W
   p:=fun w vW vB hF h1 h2=>newP_pos s b vW vB W Br n w hs hb hF hend hn h1 h2 hBl hck }
 ·obtain rfl:n=0:=by omega
  have hs0:s.size=0:=hend.1.symm;have hbr0:=br_nil hs0 hbr;subst hbr0;refine⟨[0],[],[],1 - 2 * baseOf [] b,baseOf [] b,[],[ln0],?_,tame_nil,by rw[hs0];exact fine_nil,fun h=>absurd h (by decide),by rcases base_01 (K:=[]) hb with h | h <;> rw[h] <;> decide,fun _=>rfl,rfl,rfl,base_01 hb⟩
  exact {
   vx:=rfl
   bd:=rfl
   vl:=by decide
   cs:=rfl
   l0:=by decide
   l1:=by decide
   ll:=fun l hl=>by rw[List.mem_singleton.1 hl];decide
   p:=fun w vW vB hF h1 h2=>newP_nil s b vW vB W [] w hs0 hb hF h1 h2 hck }
theorem levels34 (s:ByteArray)(b:Int)(n:Nat)(w:World)(hF:Floor w)(hend:Dec.Ends s n)(hs:s.size≤400)(hb:b=0∨b=1∨b=2) :
 Calls Tryz.prog 34 #[.string s,.int .i64 b] w fun e w'=>∃g l c,e=.returned (.tuple #[.slice g l c,.int .i64 (baseOf (Kl s n) b),.int .i64 0])∧Fr [] w w':=by
 refine(levels_good s b w hs hb (fun _ _ _ p w'=>p=baseOf (Kl s n) b∧Fr [] w w') ?_).mono ?_
 ·by_cases hn:0<n
  ·have hn4:n≤400:=by have:=Dec.le_pos s n;have:=hend.1;omega
   refine(of_any s b w (by omega) hb hF.t3 hF.t4 n hend hn (by omega) (Kl_in s n)).mono ?_;rintro e w' ⟨g,rfl,_,hf,_⟩;exact⟨_,_,_,_,rfl,rfl,hf⟩
  ·obtain rfl:n=0:=by omega
   refine(of_nil s b w hend.1.symm hb).mono ?_;rintro e w' ⟨g,rfl,hf⟩;exact⟨_,_,_,_,rfl,rfl,hf⟩
 ·rintro e w' ⟨g,l,c,p,rfl,rfl,hf⟩
  exact⟨g,l,c,rfl,hf⟩
theorem sumX_le (Ls:List Ln)(h:∀k,k<Ls.length→(lnN Ls k).x.length≤1001):∀k,k≤Ls.length→sumX Ls k≤k * 1001
 | 0,_=>Nat.le_refl _
 | k+1,hk=>by have:=sumX_le Ls h k (by omega);have:=h k (by omega);rw[sumX];omega
set_option maxRecDepth 10000 in
set_option maxHeartbeats 4000000 in
theorem gaps33 (B U gN cN K:Nat)(hs:List Value)(Ls:List Ln)(w:World)(own:w.ownsRow B 72 4 (.slice (some ⟨gN,0,none⟩) K cN) K hs)(hl:lnsAt w B U hs Ls)(hK:Ls.length=K)(hK1:K≤400)(hx:∀k,k<Ls.length→(lnN Ls k).x.length≤1001) :
 Calls Tryz.prog 33 #[.slice (some ⟨gN,0,none⟩) K cN] w fun e w'=>e=.returned (.int .i64 (sumX Ls K:Nat))∧Fr [] w w':=by
 have HC:=hid (show ∀Y,Fr [] w Y→∀k,k<K→∃aX cX,Y.cell? ⟨gN,k * 4+3,none⟩=some (.slice aX (lnN Ls k).x.length cX)from fun Y hf k hk=>by
  obtain⟨vO,vX,_,_,_,a4,_,a6,_⟩:=hl k _ (lnN_get' (by omega))
  obtain⟨aX,cX,rfl⟩:=owns_slice a6
  have h1:=own.1
  exact⟨aX,cX,by rw[(owns_fr0 own hf).cellAt _ (by omega)];exact a4⟩)
 have HB:=hid (show ∀k,k≤K→sumX Ls k≤k * 1001 from fun k hk=>sumX_le Ls hx k (by omega));have HX:=hid (show ∀k,k<K→(lnN Ls k).x.length≤1001 from fun k hk=>hx k (by omega));clear own hl hx hK;obtain⟨R,hR⟩:∃R,R=sumX Ls K:=⟨_,rfl⟩;have HRR:=hid hR;rw[←hR];clear hR;go_enter Tryz.func33,Tryz.ntmps33;go_wp2_with fail;go_loopw [3,4] (fun kv iv wr=>∃(i t:Nat),kv=.int .i64 t∧iv=.int .i64 i∧i≤K∧Hid (t=sumX Ls i)∧Hid (Fr [] w wr)) (fun _ iv _=>K - (intOf iv).toNat)
 case atStart=>exact⟨0,0,rfl,rfl,Nat.zero_le _,hid rfl,hid (Fr.refl _ _)⟩
 case round =>
  obtain⟨i,t,rfl,rfl,hiK,HTt,HR⟩:=hrel;by_cases hi:i<K
  ·have hiI:(i:Int)<(K:Int):=by omega
   have HIi:=hid hi;obtain⟨aX,cX,c0⟩:=HC.out wr HR.out i hi;have HS:=hid (show sumX Ls (i+1)=t+(lnN Ls i).x.length by rw[HTt.out];rfl);have ht:t≤1000000:=by have:=HB.out i (by omega);have:=HTt.out;omega
   have hx1:=HX.out i hi;generalize (lnN Ls i).x.length=m at *;go_wp2;go_roundw
   case rel=>exact⟨i+1,t+m,by go_num,by go_num,HIi.out,hid HS.out.symm,hid HR.out⟩
   case measure=>simp[intOf];have:=HIi.out;omega
  ·obtain rfl:i=K:=by omega
   have hid2:decide ((i:Int)<(i:Int))=false:=by simp
   obtain rfl:t=R:=by rw[HTt.out,HRR.out]
   clear HTt HRR;go_wp2;go_ret;exact⟨rfl,HR.out⟩
end Go.Proofs.YtnakejhohdbfdabGreatDoor

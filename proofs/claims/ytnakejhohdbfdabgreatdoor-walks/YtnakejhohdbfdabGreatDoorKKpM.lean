import Derived.Test.YtnakejhohdbfdabGreatDoorKKpU
import Derived.Test.YtnakejhohdbfdabGreatDoorKQdO
namespace Go.Proofs.YtnakejhohdbfdabGreatDoor
open Go.RowKit Lev Lay Bnd
theorem near_up {i L:Nat}(h:i+1<L):(near ((i:Int)+1) ((L:Int) - 1)).toNat=i+1:=by unfold near;split <;> (try split) <;> omega
theorem near_top {L:Nat}(h:0<L):(near (((L - 1:Nat):Int)+1) ((L:Int) - 1)).toNat=L - 1:=by unfold near;split <;> (try split) <;> omega
theorem near_down {i L:Nat}(h:i+1<L):(near (((i+1:Nat):Int) - 1) ((L:Int) - 1)).toNat=i:=by unfold near;split <;> (try split) <;> omega
theorem st_next {Bd V:List Int}{z r:Int}{Ls:List Ln}(h:Rises Bd z){i:Nat}(hi:i+1<Bd.length)(bk:Bool):mvP Bd V z r Ls 2 (nth Bd i) 0 bk=(nth Bd (i+1),true):=by
 have e:mvP Bd V z r Ls 2 (nth Bd i) 0 bk=placeL Bd z (nth Bd (near ((cidx Bd (placeL Bd z (nth Bd i) bk).1:Int)+1) ((Bd.length:Int) - 1)).toNat) true:=by simp[mvP]
 rw[e,place_bd h (by omega) bk];rw[cidx_of h (by omega),near_up hi,place_bd h hi true,if_neg (by omega)];by_cases h1:i+1=Bd.length - 1
 ·rw[if_pos h1]
 ·rw[if_neg h1]
theorem st_last {Bd V:List Int}{z r:Int}{Ls:List Ln}(h:Rises Bd z)(h0:0<Bd.length)(bk:Bool):mvP Bd V z r Ls 2 (nth Bd (Bd.length - 1)) 0 bk=placeL Bd z (nth Bd (Bd.length - 1)) bk:=by
 have e:mvP Bd V z r Ls 2 (nth Bd (Bd.length - 1)) 0 bk=placeL Bd z (nth Bd (near ((cidx Bd (placeL Bd z (nth Bd (Bd.length - 1)) bk).1:Int)+1) ((Bd.length:Int) - 1)).toNat) true:=by simp[mvP]
 rw[e,place_bd h (by omega) bk];rw[cidx_of h (by omega),near_top h0,place_bd h (by omega) true,if_pos rfl,if_pos rfl]
theorem st_prev {Bd V:List Int}{z r:Int}{Ls:List Ln}(h:Rises Bd z){i:Nat}(hi:i+1<Bd.length)(bk:Bool):(mvP Bd V z r Ls 3 (nth Bd (i+1)) 0 bk).1=nth Bd i:=by
 have e:mvP Bd V z r Ls 3 (nth Bd (i+1)) 0 bk=placeL Bd z (nth Bd (near ((cidx Bd (placeL Bd z (nth Bd (i+1)) bk).1:Int) - 1) ((Bd.length:Int) - 1)).toNat) false:=by simp[mvP]
 rw[e,place_bd h (by omega) bk];rw[cidx_of h hi,near_down hi,place_bd h (by omega) false]
theorem st_ends {s:ByteArray}{n:Nat}(hend:Dec.Ends s n){bs:Int}{W Br:List Int}(E:Edges s n Br){k:Nat}(hk:k<Br.length+1) :
 (∃a,a<(bnd s n).length∧(lnN (lns s n bs W Br (Br.length+1)) k).f=nth (bnd s n) a)∧(∃a,a<(bnd s n).length∧(lnN (lns s n bs W Br (Br.length+1)) k).t=nth (bnd s n) a):=by
 have hbl:(bnd s n).length=cn s n+1:=by have:=(bix_len s n).2.1;rw[bnd_length hend];unfold cn;omega
 have h1:eiOf s n Br k≤cn s n:=E.le k (by omega);have h2:eiOf s n Br (k+1)≤cn s n:=E.le (k+1) (by omega);refine⟨⟨eiOf s n Br k,by omega,?_⟩,⟨eiOf s n Br (k+1),by omega,?_⟩⟩
 ·rw[lns_at hk,bnd_nth hend (by rw[←bnd_length hend,hbl];omega)];rfl
 ·rw[lns_at hk,bnd_nth hend (by rw[←bnd_length hend,hbl];omega)];rfl
theorem st_home {Bd V:List Int}{z r:Int}{Ls:List Ln}(h:Rises Bd z)(off:Int)(bk:Bool){a:Nat}(ha:a<Bd.length)(e:(lnN Ls (gapL Bd V z Ls off bk).1).f=nth Bd a):(mvP Bd V z r Ls 4 off 0 bk).1=(lnN Ls (gapL Bd V z Ls off bk).1).f:=by
 have e1:mvP Bd V z r Ls 4 off 0 bk=placeL Bd z (lnN Ls (gapL Bd V z Ls off bk).1).f false:=by simp[mvP]
 rw[e1,e,place_bd h ha]
theorem st_end {Bd V:List Int}{z r:Int}{Ls:List Ln}(h:Rises Bd z)(off:Int)(bk:Bool){a:Nat}(ha:a<Bd.length)(e:(lnN Ls (gapL Bd V z Ls off bk).1).t=nth Bd a):(mvP Bd V z r Ls 5 off 0 bk).1=(lnN Ls (gapL Bd V z Ls off bk).1).t:=by
 have e1:mvP Bd V z r Ls 5 off 0 bk=placeL Bd z (lnN Ls (gapL Bd V z Ls off bk).1).t true:=by simp[mvP]
 rw[e1,e,place_bd h ha]
theorem keep_two (s:ByteArray)(b:Int)(W Br:List Int)(n:Nat)(hend:Dec.Ends s n)(hBl:Br.length≤5000)(hck:chk s n (clsOf s n) b W Br=0):∃Bd V X r bs Cs Ls,Twin s b W Br Bd V X r bs Cs Ls∧Tame Bd V Ls∧Fine Bd V (s.size:Nat) Ls∧(0<V.length→Edges s n Br∧0<n∧(bs=0∨bs=1)∧Bd=bnd s n∧V=lvE s n bs Br∧Ls=lns s n bs W Br (Br.length+1))∧Bd=bnd s n∧(-1≤r∧r≤1):=by
 obtain⟨hs,hb⟩:=chk_zero' hck;obtain⟨hWl,hw,hbr⟩:=chk_zero hend hs hb hck;by_cases hn:0<n
 ·have hE:=edges_ok hend hn Br hbr
  have hn4:n≤400:=by have:=Dec.le_pos s n;have:=hend.1;omega
  have hcn:cn s n≤400:=by have:=bix_len s n;unfold cn;omega
  have hB4:Br.length+1≤400:=by
   have h1:=ei_ge hE (Br.length+1) (Nat.le_refl _);have h2:=hE.le (Br.length+1) (Nat.le_refl _);unfold eiOf at h1;omega
  have hvl:(lvE s n (baseOf (Kl s n) b) Br).length=cn s n:=by rw[lvE,lvs_len,←cn_begs hn]
  have hWB:∀i,0≤nth W i∧nth W i≤1073741824:=fun i=>by
   by_cases hi:i<n
   ·exact wOk_at hw hi
   ·rw[nth_over (by omega)];decide
  refine⟨bnd s n,lvE s n (baseOf (Kl s n) b) Br,wl s W n,1 - 2 * baseOf (Kl s n) b,baseOf (Kl s n) b,clst (Dec.pos s) (nix (bix s n)) (evOf s n (baseOf (Kl s n) b) Br) W (cn s n),lns s n (baseOf (Kl s n) b) W Br (Br.length+1),?_,tame_pos hn hn4 (base_01 hb) hWB hE hcn,fine_pos hend hn hE,fun _=>⟨hE,hn,base_01 hb,rfl,rfl,rfl⟩,rfl,by rcases base_01 (K:=Kl s n) hb with h | h <;> rw[h] <;> decide⟩
  exact {
   vx:=by rw[hvl,wl_len,←cn_begs hn]
   bd:=by have:=(bix_len s n).2.1;rw[hvl,bnd_length hend];unfold cn;omega
   vl:=by rw[hvl];exact hcn
   cs:=by rw[hvl];exact cls_same hend hn (base_01 hb) W Br
   l0:=by rw[lns_len];omega
   l1:=by rw[lns_len];exact hB4
   ll:=lns_small hE hcn _ W
   p:=fun w vW vB hF h1 h2=>newP_pos s b vW vB W Br n w hs hb hF hend hn h1 h2 hBl hck }
 ·obtain rfl:n=0:=by omega
  have hs0:s.size=0:=hend.1.symm;have hbr0:=br_nil hs0 hbr;subst hbr0;refine⟨[0],[],[],1 - 2 * baseOf [] b,baseOf [] b,[],[ln0],?_,tame_nil,by rw[hs0];exact fine_nil,fun h=>absurd h (by decide),by simp[bnd,hs0,bndTo],by rcases base_01 (K:=[]) hb with h | h <;> rw[h] <;> decide⟩
  exact {
   vx:=rfl
   bd:=rfl
   vl:=by decide
   cs:=rfl
   l0:=by decide
   l1:=by decide
   ll:=fun l hl=>by rw[List.mem_singleton.1 hl];decide
   p:=fun w vW vB hF h1 h2=>newP_nil s b vW vB W [] w hs0 hb hF h1 h2 hck }
structure KM (Q:Nat)(w:World)(Bd V:List Int)(z r:Int)(Ls:List Ln):Prop where
 place:∀Y,Fr [] w Y→∀off back,Calls Tryz.prog 39 #[.pointer (some ⟨Q,0,none⟩),.agg #[.int .i64 off,.bool back]] Y fun e w'=>e=.returned (.agg #[.int .i64 (placeL Bd z off back).1,.bool (placeL Bd z off back).2])∧Fr [] Y w'
 norm:∀Y,Fr [] w Y→∀line gap,Calls Tryz.prog 35 #[.pointer (some ⟨Q,0,none⟩),.agg #[.int .i64 line,.int .i64 gap]] Y fun e w'=>e=.returned (.agg #[.int .i64 (normP Bd V Ls line gap).1,.bool (normP Bd V Ls line gap).2])∧Fr [] Y w'
 move:∀Y,Fr [] w Y→∀d off back R,R=mvP Bd V z r Ls d off 0 back→Calls Tryz.prog 37 #[.pointer (some ⟨Q,0,none⟩),.int .i64 d,.agg #[.int .i64 off,.bool back],.int .i64 0] Y fun e w'=>e=.returned (.tuple #[.agg #[.int .i64 R.1,.bool R.2],.bool (!(decide (R.1=(placeL Bd z off back).1∧R.2=(placeL Bd z off back).2)))])∧Fr [] Y w'
theorem KM.of {Q P B:Nat}{w:World}{Bd V X:List Int}{r z:Int}{Ls:List Ln}{v0 v1 v2 vL:Value}{hs:List Value}(hQ:w.heap[Q]?=some (.cells #[.pointer (some ⟨P,0,none⟩)] 143 (0,0)))(h:LP w B P Bd V X r Ls v0 v1 v2 vL hs)(F:Fine Bd V z Ls)(hz:0≤z)(T:Tame Bd V Ls)(hr:-1≤r∧r≤1)(hbd:Bd.length=V.length+1)(hv4:V.length≤400)(hK0:0<Ls.length)(hK:Ls.length≤400)(hll:∀l∈Ls,l.o.length≤1000∧l.x.length≤1001):KM Q w Bd V z r Ls:=by
 have hlo:∀l∈Ls,l.o.length≤1000:=fun l hl=>(hll l hl).1
 have hq:∀Y,Fr [] w Y→Y.cell? ⟨Q,0,none⟩=some (.pointer (some ⟨P,0,none⟩)):=fun Y hf=>obj_cell (obj_fr hQ hf List.not_mem_nil) rfl
 have hl:∀Y,Fr [] w Y→LP Y B P Bd V X r Ls v0 v1 v2 vL hs:=fun Y hf=>h.fr hf (fun k hk=>absurd hk List.not_mem_nil)
 refine⟨fun Y hf off back=>?_,fun Y hf line gap=>?_,fun Y hf d off back R hR=>?_⟩
 ·exact placeC_any Q P off _ back _ Y (hq Y hf) (fun Z hZ=>placeP_any B P Bd V X r z Ls v0 v1 v2 vL hs off back Z (hl Z (hf.trans hZ)) F.rs hz (by omega))
 ·exact normC_any Q P line gap _ _ Y (hq Y hf) (fun Z hZ=>normP_any B P Bd V X r Ls v0 v1 v2 vL hs line gap Z (hl Z (hf.trans hZ)) T hbd hv4 hK0 hK hlo)
 ·exact moveC_any Q P d off 0 _ back _ _ Y (hq Y hf) (fun Z hZ=>moveP_any B P Bd V X r z Ls v0 v1 v2 vL hs d off 0 back Z (hl Z (hf.trans hZ)) F hz T hr hv4 hK0 hK hlo R hR)
theorem clusters38 (s:ByteArray)(n:Nat)(w:World)(hend:Dec.Ends s n)(hs:s.size≤1000000)(ht:Cls.TabAt w 1 Tabs.kindTab) :
 Calls Tryz.prog 38 #[.string s] w fun e w'=>∃v,e=.returned v∧w'.ownsRow w.heap.size 3 1 v (bnd s n).length (ints64 (bnd s n))∧Fr [] w w':=by
 have H86:=hid (Cls.fn25_any s w hs ht);have HE:=hid hend;clear ht hend;go_enter Tryz.func38,Tryz.ntmps38;go_wp2_with fail;refine H86.out.mono ?_;rintro e w1 ⟨n',v,he',rfl,own1,hb⟩;have e:=Dec.ends_unique he' HE.out;subst e;have HO:=hid own1;have HF:=hid (Fr.of_below (S:=[]) hb);clear own1 hb he' H86;go_wp2;go_ret;exact⟨_,rfl,HO.out,HF.out⟩
end Go.Proofs.YtnakejhohdbfdabGreatDoor

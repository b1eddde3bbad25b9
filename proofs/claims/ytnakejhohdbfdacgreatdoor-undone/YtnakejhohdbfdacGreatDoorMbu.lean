import Derived.Test.YtnakejhohdbfdacGreatDoorMbs
import Derived.Test.YtnakejhohdbfdacGreatDoorMbt
set_option maxHeartbeats 8000000
set_option maxRecDepth 10000
namespace Go.Proofs.YtnakejhohdbfdacGreatDoor.Cls.Dc
open Go.RowKit Dec BA pS Lay j9 Go.Proofs.Tryz
theorem RV (s:ByteArray)(n:Nat):∀k,k<=(bnd s n).length->List.Sublist (Wr.Bw.sV s n k) ((bnd s n).take k)
 | 0,_=>List.Sublist.refl _
 | k+1,hk=>by
   have ih:=RV s n k (by omega);have e:(bnd s n).take (k+1)=(bnd s n).take k++[(bnd s n).getD k 0]:=by rw[eU];simp[List.getD,show k<(bnd s n).length by omega]
   rw[Wr.Bw.sV,e];split
   ·exact ih.trans (List.sublist_append_left _ _)
   ·exact List.Sublist.append ih (List.Sublist.refl _)
theorem K_ (s:ByteArray)(n:Nat):∀k,(Wr.Bw.sV s n (k+1))[0]?=some ((bnd s n).getD 0 0)
 | 0=>rfl
 | k+1=>by
   have ih:=K_ s n k;rw[Wr.Bw.sV];split
   ·exact ih
   ·rw[aJ (aY.1 ih).1];exact ih
theorem Hw {s:ByteArray}{n:Nat}(h:Dec.Ends s n):jN (Wr.Bw.wd s n) ((s.size:Nat):Int):=by
 have hr:=jW h;have hl:=hr.len;obtain⟨j,hj⟩:∃j,(bnd s n).length=j+1:=⟨(bnd s n).length - 1,by omega⟩;have hs:=RV s n (bnd s n).length (au _);rw[c_]at hs;refine⟨hr.sorted.sublist hs,?_,?_⟩
 ·unfold Wr.Bw.wd
  rw[hj,K_];exact congrArg some hr.Oq
 ·have e:Wr.Bw.wd s n=Wr.Bw.sV s n j++[(bnd s n).getD j 0]:=by
   unfold Wr.Bw.wd;rw[hj,Wr.Bw.sV,ay (by omega)]
  have he:=(Ep hr).2;rw[hj,dx]at he;rw[e,he];simp
theorem Ex (D Z P:Nat)(b na wi R ao fo goal:Int)(t:ByteArray)(vB vU vR:Value)(ab fb aim:Bool)(w:World)(hD:w.heap[D]?=some (.cells (zH b na wi R t vB Z vU vR) 85 (0,0)))(hZ:w.heap[Z]?=some (.cells (kL P ao ab fo fb aim goal) 134 (0,0))) :
 Calls prog 49 #[.pointer (some ⟨D,0,none⟩)] w fun e w'=>e=.returned (.int .i64 fo)/\Fr [] w w':=by
 have Wv:=hid (t_ Z P ao fo goal ab fb aim w hZ);have d6:=iG hD (i:=6) (v:=.pointer (some ⟨Z,0,none⟩)) rfl;clear hD hZ;go_enter func49,ntmps49;go_wp2_with fail;refine Wv.out.mono ?_;rintro e w1 ⟨rfl,hf1⟩;have jc:=hid hf1;clear hf1 Wv d6;go_wp2;go_ret;exact⟨rfl,(jc.out.alloc _).alloc _⟩
theorem RX (fn:Nat)(up:Bool)(L:List Int)(z fo:Int)(hr:jN L z)(hz:0<=z)(hl:L.length<=1000002)(hfn:(fn=47/\up=false)\/(fn=50/\up=true))(hfo:-9000000<=fo/\fo<=9000000):∃x:Int,∀(g cap:Nat) (w:World),(∀j,j<L.length->w.cell? ⟨g,j,none⟩=some (.int .i64 (L.getD j 0)))->Calls prog fn #[.slice (some ⟨g,0,none⟩) L.length cap,.int .i64 fo] w fun e w'=>e=.returned (.int .i64 x)/\Fr [] w w':=by
 rcases hfn with⟨rfl,rfl⟩ | ⟨rfl,rfl⟩
 ·obtain⟨k,hk⟩:=kO (min (max (fo - 1) 0) z) L hr.sorted
  refine⟨mY L (min (max (fo - 1) 0) z) false k,fun g cap w hc=>?_⟩;have H:=hid (Cls.pz L z hr (fo - 1) false k g cap w hz hk hl hc);generalize mY L (min (max (fo - 1) 0) z) false k=x at *;generalize L.length=l at *;clear hk hc hr;go_enter func47,ntmps47;go_wp2_with fail;refine H.out.mono ?_;rintro e w1 ⟨rfl,q,rfl⟩;go_wp2;go_ret;exact⟨rfl,jf _ _⟩
 ·obtain⟨k,hk⟩:=kO (min (max (fo+1) 0) z) L hr.sorted
  refine⟨mY L (min (max (fo+1) 0) z) true k,fun g cap w hc=>?_⟩;have H:=hid (Cls.pz L z hr (fo+1) true k g cap w hz hk hl hc);generalize mY L (min (max (fo+1) 0) z) true k=x at *;generalize L.length=l at *;clear hk hc hr;go_enter func50,ntmps50;go_wp2_with fail;refine H.out.mono ?_;rintro e w1 ⟨rfl,q,rfl⟩;go_wp2;go_ret;exact⟨rfl,jf _ _⟩
theorem Hx (B D lo hi:Nat)(R ao fo a x:Int)(l:List Int)(ab fb ext bk:Bool)(us rs:List Mo)(c:ByteArray)(w:World)(h:jY w B D R l ao ab fo fb us rs lo hi):∃y:Int,∀Y,Fr [] w Y ->
 Calls prog 25 #[.pointer (some ⟨D,0,none⟩),.agg (opC 14 ext a x bk c)] Y fun e w'=>e=.returned (.iface 78 (.agg (opC 9 ext y 0 false ⟨#[]⟩)))/\Fr [] Y w':=by
 obtain⟨vB,Z,P,Bl,V,Ls,vU,vR,L,aim,goal,hD,hZ,hL,_⟩:=id h.x;have hrw:=Hw h.t.ends;have hz4:=h.t.z;have hfo:-9000000<=fo/\fo<=9000000:=by
  obtain⟨k,_,e⟩:=uX h.t h.sel.2;have h1:=G_ (jW h.t.ends) (by omega) fo fb;rw[show(iR (bnd (tu l) l.length) ((tu l).size:Nat) fo fb).1=fo from congrArg Prod.fst h.pf]at h1;omega
 have hwl:(Wr.Bw.wd (tu l) l.length).length<=1000002:=by
  have h1:=Wr.Bw.yC (tu l) l.length (bnd (tu l) l.length).length;have h2:=Wr.mO h.t.ends;have h3:=(jA (tu l) l.length).1;have h4:=Dec.lV (tu l) l.length;have h5:=h.t.ends.1;unfold Wr.Bw.wd;unfold cn at h2;omega
 obtain⟨y,hy⟩:=RX 47 false (Wr.Bw.wd (tu l) l.length) ((tu l).size:Nat) fo hrw (by omega) hwl (.inl ⟨rfl,rfl⟩) hfo;refine⟨y,fun Y hYf=>?_⟩;obtain⟨t,ht⟩:∃t,t=tu l:=⟨_,rfl⟩;obtain⟨n,hn⟩:∃n,n=l.length:=⟨_,rfl⟩;rw[<-ht]at hD;rw[<-ht,<-hn]at hy hrw;obtain⟨wb,hwb⟩:∃wb,wb=Y.alloc (.cells (opC 14 ext a x bk c) 37):=⟨_,rfl⟩;have j8:=hid (show Fr [] Y wb by rw[hwb];exact(Fr.refl [] Y).alloc _);have nD:=hid (show wb.heap[Y.heap.size]?=some (.cells (opC 14 ext a x bk c) 37 (0,0)) by rw[hwb];exact iL Y _);have qQ:=hid (show Fr [] w wb from hYf.trans j8.out);have uz:=hid (iJ hD qQ.out aj);have RA:=hid (iJ hZ qQ.out aj);have RY:=h.g.fr qQ.out (fun k hk=>absurd hk aj);have H48:=hid (fun(X:World) (hf:Fr [] wb X)=>Wr.Bw.Hv t X (by rw[ht];omega) n (by rw[ht,hn];exact h.t.ends) (RE RY.u hf (fun k hk=>absurd hk aj)) (lB RY.f.t9 hf) (lB RY.f.t3 hf) (lB RY.f.t4 hf));have H49:=hid (fun(X:World) (hf:Fr [] wb X)=>Ex D Z P 2 10 20 R ao fo goal t vB vU vR ab fb aim X (iJ uz.out hf aj) (iJ RA.out hf aj));have H47:=hid hy;have GA:=hid (show 0<(Wr.Bw.wd t n).length from hrw.len);have d4:=iG uz.out (i:=4) (v:=.string t) rfl;have o1:=iG nD.out (i:=1) (v:=.bool ext) rfl;have HK:=hid (fun(X:World) (hf:Fr [] wb X)=>(show X.cell? ⟨Y.heap.size,1,none⟩=some (.bool ext)/\X.cell? ⟨D,4,none⟩=some (.string t)from⟨iG (iJ nD.out hf aj) (i:=1) rfl,iG (iJ uz.out hf aj) (i:=4) rfl⟩));generalize Wr.Bw.wd t n=wl at *;clear h hD hZ hL hrw hy hwl hfo RY ht hn;go_enter func25,ntmps25;go_wp2_with fail;rw[<-hwb];clear hwb;go_region_held3 (fun wz=>wz.cell? ⟨Y.heap.size,1,none⟩=some (.bool ext)/\wz.cell? ⟨D,4,none⟩=some (.string t)) (first | with_reducible exact l9 | go_keep)
  (first
    | (go_at_call 47;refine(H47.out _ _ _ (fun j hj=>by rw[lD.out.cellAt _ (by omega)];exact Wr.uf hj)).mono ?_;rintro e w4 ⟨rfl,jG⟩;have jI:=hid (jQ.out.trans jG);clear l9;have l9:=HK.out _ jI.out;clear jG)
    | (go_at_call 49;refine(H49.out _ i_.out).mono ?_;rintro e w3 ⟨rfl,hf3⟩;have jQ:=hid (i_.out.trans hf3);have lD:=hid (iM jO.out hf3);clear l9;have l9:=HK.out _ jQ.out;clear hf3)
    | (go_at_call 48;refine(H48.out _ (Fr.refl [] wb).drew).mono ?_;rintro e w2 ⟨v,rfl,jR,hb2⟩;have i_:=hid (show Fr [] wb w2 from Fr.trans (Fr.refl [] wb).drew (Fr.of_below hb2));obtain⟨g,cap,hv⟩:=jl GA.out jR;subst hv;have jO:=hid jR;have l9:=HK.out _ i_.out;clear jR hb2))
 all_goals (
  go_wp2
  go_ret
  exact⟨rfl,j8.out.trans jI.out⟩)
theorem Hy (B D lo hi:Nat)(R ao fo a x:Int)(l:List Int)(ab fb ext bk:Bool)(us rs:List Mo)(c:ByteArray)(w:World)(h:jY w B D R l ao ab fo fb us rs lo hi):∃y:Int,∀Y,Fr [] w Y ->
 Calls prog 25 #[.pointer (some ⟨D,0,none⟩),.agg (opC 15 ext a x bk c)] Y fun e w'=>e=.returned (.iface 78 (.agg (opC 9 ext y 0 true ⟨#[]⟩)))/\Fr [] Y w':=by
 obtain⟨vB,Z,P,Bl,V,Ls,vU,vR,L,aim,goal,hD,hZ,hL,_⟩:=id h.x;have hrw:=Hw h.t.ends;have hz4:=h.t.z;have hfo:-9000000<=fo/\fo<=9000000:=by
  obtain⟨k,_,e⟩:=uX h.t h.sel.2;have h1:=G_ (jW h.t.ends) (by omega) fo fb;rw[show(iR (bnd (tu l) l.length) ((tu l).size:Nat) fo fb).1=fo from congrArg Prod.fst h.pf]at h1;omega
 have hwl:(Wr.Bw.wd (tu l) l.length).length<=1000002:=by
  have h1:=Wr.Bw.yC (tu l) l.length (bnd (tu l) l.length).length;have h2:=Wr.mO h.t.ends;have h3:=(jA (tu l) l.length).1;have h4:=Dec.lV (tu l) l.length;have h5:=h.t.ends.1;unfold Wr.Bw.wd;unfold cn at h2;omega
 obtain⟨y,hy⟩:=RX 50 true (Wr.Bw.wd (tu l) l.length) ((tu l).size:Nat) fo hrw (by omega) hwl (.inr ⟨rfl,rfl⟩) hfo;refine⟨y,fun Y hYf=>?_⟩;obtain⟨t,ht⟩:∃t,t=tu l:=⟨_,rfl⟩;obtain⟨n,hn⟩:∃n,n=l.length:=⟨_,rfl⟩;rw[<-ht]at hD;rw[<-ht,<-hn]at hy hrw;obtain⟨wb,hwb⟩:∃wb,wb=Y.alloc (.cells (opC 15 ext a x bk c) 37):=⟨_,rfl⟩;have j8:=hid (show Fr [] Y wb by rw[hwb];exact(Fr.refl [] Y).alloc _);have nD:=hid (show wb.heap[Y.heap.size]?=some (.cells (opC 15 ext a x bk c) 37 (0,0)) by rw[hwb];exact iL Y _);have qQ:=hid (show Fr [] w wb from hYf.trans j8.out);have uz:=hid (iJ hD qQ.out aj);have RA:=hid (iJ hZ qQ.out aj);have RY:=h.g.fr qQ.out (fun k hk=>absurd hk aj);have H48:=hid (fun(X:World) (hf:Fr [] wb X)=>Wr.Bw.Hv t X (by rw[ht];omega) n (by rw[ht,hn];exact h.t.ends) (RE RY.u hf (fun k hk=>absurd hk aj)) (lB RY.f.t9 hf) (lB RY.f.t3 hf) (lB RY.f.t4 hf));have H49:=hid (fun(X:World) (hf:Fr [] wb X)=>Ex D Z P 2 10 20 R ao fo goal t vB vU vR ab fb aim X (iJ uz.out hf aj) (iJ RA.out hf aj));have H47:=hid hy;have GA:=hid (show 0<(Wr.Bw.wd t n).length from hrw.len);have d4:=iG uz.out (i:=4) (v:=.string t) rfl;have o1:=iG nD.out (i:=1) (v:=.bool ext) rfl;have HK:=hid (fun(X:World) (hf:Fr [] wb X)=>(show X.cell? ⟨Y.heap.size,1,none⟩=some (.bool ext)/\X.cell? ⟨D,4,none⟩=some (.string t)from⟨iG (iJ nD.out hf aj) (i:=1) rfl,iG (iJ uz.out hf aj) (i:=4) rfl⟩));generalize Wr.Bw.wd t n=wl at *;clear h hD hZ hL hrw hy hwl hfo RY ht hn;go_enter func25,ntmps25;go_wp2_with fail;rw[<-hwb];clear hwb;go_region_held3 (fun wz=>wz.cell? ⟨Y.heap.size,1,none⟩=some (.bool ext)/\wz.cell? ⟨D,4,none⟩=some (.string t)) (first | with_reducible exact l9 | go_keep)
  (first
    | (go_at_call 50;refine(H47.out _ _ _ (fun j hj=>by rw[lD.out.cellAt _ (by omega)];exact Wr.uf hj)).mono ?_;rintro e w4 ⟨rfl,jG⟩;have jI:=hid (jQ.out.trans jG);clear l9;have l9:=HK.out _ jI.out;clear jG)
    | (go_at_call 49;refine(H49.out _ i_.out).mono ?_;rintro e w3 ⟨rfl,hf3⟩;have jQ:=hid (i_.out.trans hf3);have lD:=hid (iM jO.out hf3);clear l9;have l9:=HK.out _ jQ.out;clear hf3)
    | (go_at_call 48;refine(H48.out _ (Fr.refl [] wb).drew).mono ?_;rintro e w2 ⟨v,rfl,jR,hb2⟩;have i_:=hid (show Fr [] wb w2 from Fr.trans (Fr.refl [] wb).drew (Fr.of_below hb2));obtain⟨g,cap,hv⟩:=jl GA.out jR;subst hv;have jO:=hid jR;have l9:=HK.out _ i_.out;clear jR hb2))
 all_goals (
  go_wp2
  go_ret
  exact⟨rfl,j8.out.trans jI.out⟩)
def Stp (d:Int)(l:List Int)(us rs:List Mo)(mv:Bool)(l':List Int)(us' rs':List Mo):Prop :=
 (11<=d/\d<=13/\mv=true/\(∃m:Mo,m.l=l/\us'=yx us m)/\rs'=[]) \/
 (d=16/\mv=true/\∃m m':Mo,us=us'++[m]/\l'=m.l/\m'.l=l/\rs'=rs++[m']) \/
 (d=17/\mv=true/\∃m m':Mo,rs=rs'++[m]/\l'=m.l/\m'.l=l/\us'=us++[m']) \/
 (l'=l/\us'=us/\rs'=rs/\(d=16->us=[]/\mv=false)/\(d=17->rs=[]/\mv=false)/\(11<=d/\d<=13->mv=false))
theorem Bo {w:World}{B D lo hi:Nat}{R ao fo:Int}{l:List Int}{ab fb:Bool}{us rs:List Mo}(h:jY w B D R l ao ab fo fb us rs lo hi)(d:Int)(hd:11<=d/\d<=13)(i j:Nat)(hij:i<=j)(hj:j<=l.length)(cl:List Int)(hc:∀r∈cl,Ik r/\jg.look jg.iY r≠10)(hcs:(tu cl).size<=100000)(up back:Bool) :
 ∃done l' us' rs',Stp d l us rs done l' us' rs'/\((tu (l.take i++cl++l.drop j)).size<=400->l'=l.take i++cl++l.drop j/\done=true)/\∀Y,Fr [] w Y->Calls prog 28 #[.pointer (some ⟨D,0,none⟩),.agg #[.int .i64 ((Dec.pos (tu l) i:Nat):Int),.int .i64 ((Dec.pos (tu l) j:Nat):Int),.string (tu cl),.bool up,.bool back]] Y fun e w'=>e=.returned (.bool done)/\Il Y w' B D R l' us' rs' lo hi:=by
 have hp:=uY (s:=tu l) hij;have hu:Dec.pos (tu l) j<=(tu l).size:=by rw[<-h.t.ends.1];exact uY hj
 have hnt:=(YP (c:=cl) h.t.s (show i<=l.length by omega) hj).symm;by_cases hz:(tu (l.take i++cl++l.drop j)).size<=400
 ·refine⟨true,_,_,_,.inl ⟨hd.1,hd.2,rfl,⟨⟨l,ao,ab,fo,fb⟩,rfl,rfl⟩,rfl⟩,fun _=>⟨rfl,rfl⟩,fun Y hf=>?_⟩
  refine(JV B D _ _ lo hi R ao fo l _ (tu cl) ab fb up back us rs Y (h.fr hf) hp hu hnt (YQ h.t hc i j hz) hcs).mono ?_;rintro e w' ⟨rfl,lR,mg,mV,mX,k1,k2⟩;exact⟨rfl,lR,mg,mV,mX,_,_,k1,.inl (au _),k2⟩
 ·refine⟨false,l,us,rs,.inr (.inr (.inr ⟨rfl,rfl,rfl,(fun e=>by omega),(fun e=>by omega),fun _=>rfl⟩)),fun h=>absurd h hz,fun Y hf=>?_⟩
  refine(NC B D _ _ lo hi R ao fo l (tu cl) _ ab fb up back us rs Y (h.fr hf) hp hu hnt hcs (by omega)).mono ?_;rintro e w' ⟨rfl,k⟩;exact⟨rfl,ao,ab,fo,fb,lo,hi,(h.fr hf).fr k,.inr ⟨au _,au _⟩,lM.FA k⟩
def NX (w:World)(B D lo hi:Nat)(R d:Int)(l:List Int)(us rs:List Mo)(e:Ending)(w':World):Prop:=∃mv l' us' rs',Stp d l us rs mv l' us' rs'/\NB (tu l') mv us'.length rs'.length e/\Il w w' B D R l' us' rs' lo hi
theorem Ay (c:ByteArray)(m:Nat)(hm:Dec.Ends c m):(tu (qI c m)).size<=4 * c.size:=by
 have key:∀l:List Int,(tu l).size<=4 * l.length:=fun l=>by
  induction l with
  | nil=>exact au _
  | cons r l ih =>
    have:=(Lib.encodeRuneZ_length r).2;have e:(enc r).size=(Lib.encodeRuneZ r).length:=by simp[enc,Lib.encodeRune,ByteArray.size]
    rw[tu,dB,bg];omega
 have h1:=key (qI c m);have h2:(qI c m).length=m:=by simp[qI]
 have h3:=Dec.lV c m;have h4:=hm.1;omega
theorem Vm {w:World}{B D lo hi:Nat}{R ao fo:Int}{l:List Int}{ab fb:Bool}{us rs:List Mo}(h:jY w B D R l ao ab fo fb us rs lo hi)(a x:Int)(ext bk:Bool)(c:ByteArray)(hc:c.size<=4096) :
 Calls prog 15 #[.pointer (some ⟨D,0,none⟩),.agg (opC 11 ext a x bk c)] w (NX w B D lo hi R 11 l us rs):=by
 obtain⟨m,hm⟩:=runs c;obtain⟨i,j,hij,hj,e1,e2⟩:=Fm h.t h.sel.1 h.sel.2;have hs:=Ay c m hm;obtain⟨done,l',us',rs',h1,_,h2⟩:=Bo h 11 (by decide) i j hij hj (qI c m) (Fj c m) (by omega) true true;refine(sS B D lo hi R ao fo 11 a x ab fb ext bk true true done l l' us rs us' rs' c (tu (qI c m)) _ _ w h (fun Y hf=>?_) h2).mono (fun e w' ⟨k1,k2⟩=>⟨done,l',us',rs',h1,k1,k2⟩);refine Hq D ext bk a x c _ Y (fun Y' hf'=>?_);have k:=Aw B D m lo hi R ao fo l c ab fb us rs Y' ((h.fr hf).fr hf') (by omega) hm;rw[e1,e2,Dg]at k;exact k
theorem WD (Q D B lo hi:Nat)(R d a x:Int)(ext bk:Bool)(oc:ByteArray)(S:Bool->List Int->List Mo->List Mo->Prop)(w:World)(hQ:w.heap[Q]?=some (.cells #[.pointer (some ⟨D,0,none⟩)] 59 (0,0)))(hB:B<=w.heap.size)(Bp:Q≠D)(SM:D<w.heap.size)(h9:9<B)(YU:hi<=w.heap.size)
 (hd:∀Y,Fr [] w Y->Calls prog 15 #[.pointer (some ⟨D,0,none⟩),.agg (opC d ext a x bk oc)] Y fun e w'=>∃mv l us rs,S mv l us rs/\NB (tu l) mv us.length rs.length e/\Il Y w' B D R l us rs lo hi) :
 Calls prog 7 #[.pointer (some ⟨Q,0,none⟩),.agg (opC d ext a x bk oc)] w fun e w'=>∃mv l us rs,S mv l us rs/\NB (tu l) mv us.length rs.length e/\Il w w' B D R l us rs lo hi:=by
 obtain⟨wb,hwb⟩:∃wb,wb=(w.alloc (.cells (opC d ext a x bk oc) 37)).alloc (.cells #[.int .i64 0,.bool false,.int .i64 0,.bool false,.int .i64 0,.int .i64 0,.int .i64 0,.int .i64 0,.int .i64 0,.int .i64 0,.int .i64 0,.slice none 0 0,.bool false,.string ⟨#[]⟩,.slice none 0 0,.int .i64 0,.int .i64 0] 34):=⟨_,rfl⟩;have j8:=hid (show Fr [] w wb by rw[hwb];exact((Fr.refl [] w).alloc _).alloc _);have nD:=hid (show wb.heap[w.heap.size]?=some (.cells (opC d ext a x bk oc) 37 (0,0)) by rw[hwb];exact iJ (iL w _) ((Fr.refl [] _).alloc _) aj)
 have yF:=hid (show wb.heap[w.heap.size+1]?=some (.cells #[.int .i64 0,.bool false,.int .i64 0,.bool false,.int .i64 0,.int .i64 0,.int .i64 0,.int .i64 0,.int .i64 0,.int .i64 0,.int .i64 0,.slice none 0 0,.bool false,.string ⟨#[]⟩,.slice none 0 0,.int .i64 0,.int .i64 0] 34 (0,0)) by
  have h:=iL (w.alloc (.cells (opC d ext a x bk oc) 37)) (.cells #[.int .i64 0,.bool false,.int .i64 0,.bool false,.int .i64 0,.int .i64 0,.int .i64 0,.int .i64 0,.int .i64 0,.int .i64 0,.int .i64 0,.slice none 0 0,.bool false,.string ⟨#[]⟩,.slice none 0 0,.int .i64 0,.int .i64 0] 34)
  rw[<-hwb]at h;simpa using h)
 have HQb:=hid (iJ hQ j8.out aj);have hQl:=iO hQ;have E0:=hid (iO yF.out);have hne1:¬Q=w.heap.size+1:=by omega
 have hne2:¬w.heap.size+1=Q:=by omega
 have V3:=hid (fun(Y:World) (hf:Fr [] wb Y)=>hd Y (j8.out.trans hf));have HK:=hid (fun(wz:World) (hf:Fr [] wb wz)=>show wz.cell? ⟨Q,0,none⟩=some (.pointer (some ⟨D,0,none⟩))/\wz.cell? ⟨w.heap.size,0,none⟩=some (.int .i64 d)/\wz.cell? ⟨w.heap.size,1,none⟩=some (.bool ext)/\wz.cell? ⟨w.heap.size,2,none⟩=some (.int .i64 a)/\wz.cell? ⟨w.heap.size,3,none⟩=some (.int .i64 x)/\wz.cell? ⟨w.heap.size,4,none⟩=some (.bool bk)/\wz.cell? ⟨w.heap.size,5,none⟩=some (.string oc)from⟨iG (iJ HQb.out hf aj) (i:=0) rfl,iG (iJ nD.out hf aj) (i:=0) rfl,iG (iJ nD.out hf aj) (i:=1) rfl,iG (iJ nD.out hf aj) (i:=2) rfl,iG (iJ nD.out hf aj) (i:=3) rfl,iG (iJ nD.out hf aj) (i:=4) rfl,iG (iJ nD.out hf aj) (i:=5) rfl⟩);obtain⟨y0,y1,y2,y3,y4,y5,y6⟩:=HK.out wb (Fr.refl [] wb);clear hd hQ;go_enter func7,ntmps7;go_wp2_with fail;rw[<-hwb];clear hwb;go_region_held3 (fun wz=>wz.cell? ⟨Q,0,none⟩=some (.pointer (some ⟨D,0,none⟩))/\wz.cell? ⟨w.heap.size,0,none⟩=some (.int .i64 d)/\wz.cell? ⟨w.heap.size,1,none⟩=some (.bool ext)/\wz.cell? ⟨w.heap.size,2,none⟩=some (.int .i64 a)/\wz.cell? ⟨w.heap.size,3,none⟩=some (.int .i64 x)/\wz.cell? ⟨w.heap.size,4,none⟩=some (.bool bk)/\wz.cell? ⟨w.heap.size,5,none⟩=some (.string oc)) (first | with_reducible exact l9 | go_keep)
  (first
    | (go_at_call 15;refine(V3.out _ ?fa).mono ?_;(case fa=>exact(Fr.refl [] wb).drew);rintro e w2 ⟨mv,l,us,rs,hS,⟨ao,ab,fo,fb,a1,a2,gx,b1,b2,c1,c2,aS,nS,cS,aB,nB,cB,rfl⟩,ao2,ab2,fo2,fb2,lo2,hi2,kS,hlh,kH⟩;have Pn:=hid hS;have rZ:=hid kS;have Vc:=hid hlh;have Dl:=hid ((lM.FA (j8.out.trans (Fr.refl [] wb).drew)).trans kH);obtain⟨nU,tB⟩:∃nU,nU=us.length:=⟨_,rfl⟩;obtain⟨nR,hnR⟩:∃nR,nR=rs.length:=⟨_,rfl⟩;obtain⟨nt,hnt⟩:∃nt,nt=tu l:=⟨_,rfl⟩;rw[<-tB,<-hnR,<-hnt];have FC:=hid tB;have D3:=hid hnR;have zJ:=hid hnt;have HR2:=hid (kH.obj (iJ yF.out (Fr.refl [] wb).drew aj) (by omega) (by decide) (by decide));have l9:=(show w2.cell? ⟨Q,0,none⟩=some (.pointer (some ⟨D,0,none⟩))/\w2.cell? ⟨w.heap.size,0,none⟩=some (.int .i64 d)/\w2.cell? ⟨w.heap.size,1,none⟩=some (.bool ext)/\w2.cell? ⟨w.heap.size,2,none⟩=some (.int .i64 a)/\w2.cell? ⟨w.heap.size,3,none⟩=some (.int .i64 x)/\w2.cell? ⟨w.heap.size,4,none⟩=some (.bool bk)/\w2.cell? ⟨w.heap.size,5,none⟩=some (.string oc)from⟨iG (kH.obj (iJ HQb.out (Fr.refl [] wb).drew aj) Bp (by decide) (by decide)) (i:=0) rfl,iG (kH.obj (iJ nD.out (Fr.refl [] wb).drew aj) (by omega) (by decide) (by decide)) (i:=0) rfl,iG (kH.obj (iJ nD.out (Fr.refl [] wb).drew aj) (by omega) (by decide) (by decide)) (i:=1) rfl,iG (kH.obj (iJ nD.out (Fr.refl [] wb).drew aj) (by omega) (by decide) (by decide)) (i:=2) rfl,iG (kH.obj (iJ nD.out (Fr.refl [] wb).drew aj) (by omega) (by decide) (by decide)) (i:=3) rfl,iG (kH.obj (iJ nD.out (Fr.refl [] wb).drew aj) (by omega) (by decide) (by decide)) (i:=4) rfl,iG (kH.obj (iJ nD.out (Fr.refl [] wb).drew aj) (by omega) (by decide) (by decide)) (i:=5) rfl⟩);have r0:=iG HR2.out (i:=0) (v:=.int .i64 0) rfl;have k0:=iH HR2.out 0;have r1:=iG HR2.out (i:=1) (v:=.bool false) rfl;have k1:=iH HR2.out 1;have r2:=iG HR2.out (i:=2) (v:=.int .i64 0) rfl;have k2:=iH HR2.out 2;have r3:=iG HR2.out (i:=3) (v:=.bool false) rfl;have k3:=iH HR2.out 3;have r4:=iG HR2.out (i:=4) (v:=.int .i64 0) rfl;have k4:=iH HR2.out 4;have r5:=iG HR2.out (i:=5) (v:=.int .i64 0) rfl;have k5:=iH HR2.out 5;have r6:=iG HR2.out (i:=6) (v:=.int .i64 0) rfl;have k6:=iH HR2.out 6;have r7:=iG HR2.out (i:=7) (v:=.int .i64 0) rfl;have k7:=iH HR2.out 7;have r8:=iG HR2.out (i:=8) (v:=.int .i64 0) rfl;have k8:=iH HR2.out 8;have r9:=iG HR2.out (i:=9) (v:=.int .i64 0) rfl;have k9:=iH HR2.out 9;have Ig:=iG HR2.out (i:=10) (v:=.int .i64 0) rfl;have k10:=iH HR2.out 10;have Ih:=iG HR2.out (i:=11) (v:=.slice none 0 0) rfl;have k11:=iH HR2.out 11;have Ii:=iG HR2.out (i:=12) (v:=.bool false) rfl;have k12:=iH HR2.out 12;have U0:=iG HR2.out (i:=13) (v:=.string ⟨#[]⟩) rfl;have k13:=iH HR2.out 13;have ZR:=iG HR2.out (i:=14) (v:=.slice none 0 0) rfl;have k14:=iH HR2.out 14;have WB:=iG HR2.out (i:=15) (v:=.int .i64 0) rfl;have k15:=iH HR2.out 15;have r16:=iG HR2.out (i:=16) (v:=.int .i64 0) rfl;have k16:=iH HR2.out 16;clear kS kH hS hlh tB hnR hnt))
 all_goals (
  go_wp2
  refine fE (fH (t:=34) (fr:=(0,0)) rfl _ _ (w.heap.size+1) _ _ rfl (iI (iI (iI (iI (iI (iI (iI (iI (iI (iI (iI (iI (iI (iI (iI (iI (iI HR2.out 0 _) 1 _) 2 _) 3 _) 4 _) 5 _) 6 _) 7 _) 8 _) 9 _) 10 _) 11 _) 12 _) 13 _) 14 _) 15 _) 16 _) underlying34 rfl (by kernel_rfl)) rfl ?_
  have hl2:=Vc.out
  have hws:w.heap.size+1<wb.drew.heap.size:=E0.out
  refine⟨mv,l,us,rs,Pn.out,⟨ao,ab,fo,fb,a1,a2,gx,b1,b2,c1,c2,aS,nS,cS,aB,nB,cB,?_⟩,ao2,ab2,fo2,fb2,lo2,hi2,rZ.out.ZS (AW w2 (w.heap.size+1) _ _ _ _ _ _ _ _ _ _ _ _ _ _ _ _ _) HR2.out (by omega) (by omega),by omega,Dl.out.own (AW w2 (w.heap.size+1) _ _ _ _ _ _ _ _ _ _ _ _ _ _ _ _ _) (by omega)⟩
  rw[<-FC.out,<-D3.out,<-zJ.out]
  simp)
theorem Vn {w:World}{B D lo hi:Nat}{R ao fo:Int}{l:List Int}{ab fb:Bool}{us rs:List Mo}(h:jY w B D R l ao ab fo fb us rs lo hi)(a x:Int)(ext bk:Bool)(c:ByteArray) :
 Calls prog 15 #[.pointer (some ⟨D,0,none⟩),.agg (opC 12 ext a x bk c)] w (NX w B D lo hi R 12 l us rs):=by
 obtain⟨i,j,hij,hj,e1,e2⟩:=Fm h.t h.sel.1 h.sel.2;have hz:=h.t.z;have hgo:∀(f u:Nat) (hfu:f<=u) (hu:u<=l.length) (back:Bool),(∀Y,Fr [] w Y->Calls prog 25 #[.pointer (some ⟨D,0,none⟩),.agg (opC 12 ext a x bk c)] Y fun e w'=>e=.returned (.iface 88 (.agg #[.int .i64 ((Dec.pos (tu l) f:Nat):Int),.int .i64 ((Dec.pos (tu l) u:Nat):Int),.string (tu []),.bool false,.bool back]))/\Fr [] Y w')->Calls prog 15 #[.pointer (some ⟨D,0,none⟩),.agg (opC 12 ext a x bk c)] w (NX w B D lo hi R 12 l us rs):=fun f u hfu hu back hd=>by
  obtain⟨done,l',us',rs',h1,_,h2⟩:=Bo h 12 (by decide) f u hfu hu [] (fun r hr=>by cases hr) (by decide) false back;exact(sS B D lo hi R ao fo 12 a x ab fb ext bk false back done l l' us rs us' rs' c (tu []) _ _ w h hd h2).mono (fun e w' ⟨k1,k2⟩=>⟨done,l',us',rs',h1,k1,k2⟩)
 by_cases hne:Dec.pos (tu l) i=Dec.pos (tu l) j
 ·have hi2:i<=l.length:=by omega
  have hpi:Dec.pos (tu l) i<=(tu l).size:=by rw[<-h.t.ends.1];exact uY hi2
  rw[<-hne]at e2;obtain⟨y,m1,m2,m3⟩:=U_ (tu l) l.length ((Dec.pos (tu l) i:Nat):Int) h.t.ends (by omega) (by omega);obtain⟨k,hk,rfl⟩:=uX h.t m1;have hnil:(∀Y,Calls prog 94 #[.int .i64 ((Dec.pos (tu l) k:Nat):Int),.int .i64 ((Dec.pos (tu l) i:Nat):Int),.bool true] Y fun e w'=>e=.returned .nilIface/\w'=Y)->Calls prog 15 #[.pointer (some ⟨D,0,none⟩),.agg (opC 12 ext a x bk c)] w (NX w B D lo hi R 12 l us rs):=fun hv =>
   (K7 B D lo hi R ao fo 12 a x ab fb ext bk l us rs c w h (fun Y hf=>Dj D ext bk a x c _ Y (fun Y' hf'=>Et B D lo hi R ao fo l ab fb us rs _ .nilIface _ Y' ((h.fr hf).fr hf') e1 e2 m3 hv))).mono (fun e w' ⟨k1,k2⟩=>⟨false,l,us,rs,.inr (.inr (.inr ⟨rfl,rfl,rfl,(fun e=>by omega),(fun e=>by omega),fun _=>rfl⟩)),k1,k2⟩)
  have YY:∀(f u:Nat) (hfu:f<=u) (hu:u<=l.length) (back:Bool),(∀Y,Calls prog 94 #[.int .i64 ((Dec.pos (tu l) k:Nat):Int),.int .i64 ((Dec.pos (tu l) i:Nat):Int),.bool true] Y fun e w'=>e=.returned (.iface 88 (.agg #[.int .i64 ((Dec.pos (tu l) f:Nat):Int),.int .i64 ((Dec.pos (tu l) u:Nat):Int),.string ⟨#[]⟩,.bool false,.bool back]))/\w'=Y)->Calls prog 15 #[.pointer (some ⟨D,0,none⟩),.agg (opC 12 ext a x bk c)] w (NX w B D lo hi R 12 l us rs):=fun f u hfu hu back hv =>
   hgo f u hfu hu back (fun Y hf=>Dj D ext bk a x c _ Y (fun Y' hf'=>Et B D lo hi R ao fo l ab fb us rs _ _ _ Y' ((h.fr hf).fr hf') e1 e2 m3 hv))
  by_cases hx:k=i\/Dec.pos (tu l) k=Dec.pos (tu l) i
  ·have hxe:Dec.pos (tu l) k=Dec.pos (tu l) i:=hx.elim (fun e=>by rw[e]) id
   exact hnil (fun Y=>by have q:=Dh (Dec.pos (tu l) i) true Y;rw[hxe];exact q)
  ·have hki:k<=i:=by
    rcases cH i k with q | q
    ·have:=Dec.kR (tu l) i k q
     omega
    ·exact q
   exact YY k i hki hi2 true (fun Y=>qJ (Dec.pos (tu l) k) (Dec.pos (tu l) i) true Y (fun e=>hx (.inr e)))
 ·exact hgo i j hij hj true (fun Y hf=>Dj D ext bk a x c _ Y (fun Y' hf'=>NA B D lo hi R ao fo l ab fb us rs _ _ Y' ((h.fr hf).fr hf') e1 e2 hne))
theorem Vo {w:World}{B D lo hi:Nat}{R ao fo:Int}{l:List Int}{ab fb:Bool}{us rs:List Mo}(h:jY w B D R l ao ab fo fb us rs lo hi)(a x:Int)(ext bk:Bool)(c:ByteArray) :
 Calls prog 15 #[.pointer (some ⟨D,0,none⟩),.agg (opC 13 ext a x bk c)] w (NX w B D lo hi R 13 l us rs):=by
 obtain⟨i,j,hij,hj,e1,e2⟩:=Fm h.t h.sel.1 h.sel.2;have hz:=h.t.z;have hgo:∀(f u:Nat) (hfu:f<=u) (hu:u<=l.length) (back:Bool),(∀Y,Fr [] w Y->Calls prog 25 #[.pointer (some ⟨D,0,none⟩),.agg (opC 13 ext a x bk c)] Y fun e w'=>e=.returned (.iface 88 (.agg #[.int .i64 ((Dec.pos (tu l) f:Nat):Int),.int .i64 ((Dec.pos (tu l) u:Nat):Int),.string (tu []),.bool false,.bool back]))/\Fr [] Y w')->Calls prog 15 #[.pointer (some ⟨D,0,none⟩),.agg (opC 13 ext a x bk c)] w (NX w B D lo hi R 13 l us rs):=fun f u hfu hu back hd=>by
  obtain⟨done,l',us',rs',h1,_,h2⟩:=Bo h 13 (by decide) f u hfu hu [] (fun r hr=>by cases hr) (by decide) false back;exact(sS B D lo hi R ao fo 13 a x ab fb ext bk false back done l l' us rs us' rs' c (tu []) _ _ w h hd h2).mono (fun e w' ⟨k1,k2⟩=>⟨done,l',us',rs',h1,k1,k2⟩)
 by_cases hne:Dec.pos (tu l) i=Dec.pos (tu l) j
 ·have hi2:i<=l.length:=by omega
  have hpi:Dec.pos (tu l) i<=(tu l).size:=by rw[<-h.t.ends.1];exact uY hi2
  rw[<-hne]at e2;obtain⟨y,m1,m2,m3⟩:=RO (tu l) l.length ((Dec.pos (tu l) i:Nat):Int) h.t.ends (by omega) (by omega);obtain⟨k,hk,rfl⟩:=uX h.t m1;have hnil:(∀Y,Calls prog 94 #[.int .i64 ((Dec.pos (tu l) i:Nat):Int),.int .i64 ((Dec.pos (tu l) k:Nat):Int),.bool false] Y fun e w'=>e=.returned .nilIface/\w'=Y)->Calls prog 15 #[.pointer (some ⟨D,0,none⟩),.agg (opC 13 ext a x bk c)] w (NX w B D lo hi R 13 l us rs):=fun hv =>
   (K7 B D lo hi R ao fo 13 a x ab fb ext bk l us rs c w h (fun Y hf=>Dk D ext bk a x c _ Y (fun Y' hf'=>Di B D lo hi R ao fo l ab fb us rs _ .nilIface _ Y' ((h.fr hf).fr hf') e1 e2 m3 hv))).mono (fun e w' ⟨k1,k2⟩=>⟨false,l,us,rs,.inr (.inr (.inr ⟨rfl,rfl,rfl,(fun e=>by omega),(fun e=>by omega),fun _=>rfl⟩)),k1,k2⟩)
  have YY:∀(f u:Nat) (hfu:f<=u) (hu:u<=l.length) (back:Bool),(∀Y,Calls prog 94 #[.int .i64 ((Dec.pos (tu l) i:Nat):Int),.int .i64 ((Dec.pos (tu l) k:Nat):Int),.bool false] Y fun e w'=>e=.returned (.iface 88 (.agg #[.int .i64 ((Dec.pos (tu l) f:Nat):Int),.int .i64 ((Dec.pos (tu l) u:Nat):Int),.string ⟨#[]⟩,.bool false,.bool back]))/\w'=Y)->Calls prog 15 #[.pointer (some ⟨D,0,none⟩),.agg (opC 13 ext a x bk c)] w (NX w B D lo hi R 13 l us rs):=fun f u hfu hu back hv =>
   hgo f u hfu hu back (fun Y hf=>Dk D ext bk a x c _ Y (fun Y' hf'=>Di B D lo hi R ao fo l ab fb us rs _ _ _ Y' ((h.fr hf).fr hf') e1 e2 m3 hv))
  by_cases hx:k=i\/Dec.pos (tu l) i=Dec.pos (tu l) k
  ·have hxe:Dec.pos (tu l) i=Dec.pos (tu l) k:=hx.elim (fun e=>by rw[e]) id
   exact hnil (fun Y=>by have q:=Dh (Dec.pos (tu l) i) false Y;rw[<-hxe];exact q)
  ·have hki:i<=k:=by
    rcases cH k i with q | q
    ·have:=Dec.kR (tu l) k i q
     omega
    ·exact q
   exact YY i k hki hk false (fun Y=>qJ (Dec.pos (tu l) i) (Dec.pos (tu l) k) false Y (fun e=>hx (.inr e)))
 ·exact hgo i j hij hj true (fun Y hf=>Dk D ext bk a x c _ Y (fun Y' hf'=>JW B D lo hi R ao fo l ab fb us rs _ _ Y' ((h.fr hf).fr hf') e1 e2 hne))
theorem Vp {w:World}{B D lo hi:Nat}{R ao fo:Int}{l:List Int}{ab fb:Bool}{us rs:List Mo}(h:jY w B D R l ao ab fo fb us rs lo hi)(d a x:Int)(ext bk:Bool)(c:ByteArray)(hc:c.size<=4096) :
 Calls prog 15 #[.pointer (some ⟨D,0,none⟩),.agg (opC d ext a x bk c)] w (NX w B D lo hi R d l us rs):=by
 have YZ:∀(d' a' x':Int) (ext' SN:Bool) (c':ByteArray),¬(11<=d/\d<=13)->d≠16->d≠17->(∀Y,Fr [] w Y->Calls prog 25 #[.pointer (some ⟨D,0,none⟩),.agg (opC d ext a x bk c)] Y fun e w'=>e=.returned (.iface 78 (.agg (opC d' ext' a' x' SN c')))/\Fr [] Y w')->Calls prog 15 #[.pointer (some ⟨D,0,none⟩),.agg (opC d ext a x bk c)] w (NX w B D lo hi R d l us rs):=fun d' a' x' ext' SN c' n1 n2 n3 hd =>
  (JY B D lo hi R ao fo d a x d' a' x' ab fb ext bk ext' SN l us rs c c' w h hd).mono (fun e w' ⟨mv,k1,k2⟩=>⟨mv,l,us,rs,.inr (.inr (.inr ⟨rfl,rfl,rfl,(fun e=>absurd e n2),(fun e=>absurd e n3),fun e=>absurd e n1⟩)),k1,k2⟩)
 by_cases h11:d=11
 ·subst h11;exact Vm h a x ext bk c hc
 by_cases h12:d=12
 ·subst h12;exact Vn h a x ext bk c
 by_cases Qc:d=13
 ·subst Qc;exact Vo h a x ext bk c
 by_cases W5:d=14
 ·subst W5
  obtain⟨y,hy⟩:=Hx B D lo hi R ao fo a x l ab fb ext bk us rs c w h;exact YZ _ _ _ _ _ _ (by omega) (by omega) (by omega) hy
 by_cases h15:d=15
 ·subst h15
  obtain⟨y,hy⟩:=Hy B D lo hi R ao fo a x l ab fb ext bk us rs c w h;exact YZ _ _ _ _ _ _ (by omega) (by omega) (by omega) hy
 by_cases h16:d=16
 ·subst h16
  rcases List.eq_nil_or_concat us with rfl | ⟨us0,m,rfl⟩
  ·refine(Hs B D lo hi R ao fo 16 a x ab fb ext bk false l l [] rs [] rs c w h (fun Y hf=>Eu D ext bk a x c Y) (fun Y hf=>?_)).mono (fun e w' ⟨k1,k2⟩=>⟨false,l,[],rs,.inr (.inr (.inr ⟨rfl,rfl,rfl,(fun _=>⟨rfl,rfl⟩),(fun e=>by omega),fun e=>by omega⟩)),k1,k2⟩)
   refine(Vk B D lo hi R ao fo l ab fb rs Y (h.fr hf)).mono ?_;rintro e w' ⟨rfl,k⟩;exact⟨rfl,ao,ab,fo,fb,lo,hi,(h.fr hf).fr k,.inr ⟨au _,au _⟩,lM.FA k⟩
  ·rw[List.concat_eq_append]at h ⊢
   refine(Hs B D lo hi R ao fo 16 a x ab fb ext bk true l m.l (us0++[m]) rs us0 (rs++[⟨l,ao,ab,fo,fb⟩]) c w h (fun Y hf=>Eu D ext bk a x c Y) (fun Y hf=>?_)).mono (fun e w' ⟨k1,k2⟩=>⟨true,m.l,us0,_,.inr (.inl ⟨rfl,rfl,m,⟨l,ao,ab,fo,fb⟩,rfl,rfl,rfl,rfl⟩),k1,k2⟩);refine(RT B D lo hi R ao fo l ab fb us0 rs m Y (h.fr hf)).mono ?_;rintro e w' ⟨rfl,lR,mg,mV,mX,k1,k2⟩;exact⟨rfl,lR,mg,mV,mX,_,_,k1,.inl (au _),k2⟩
 by_cases SO:d=17
 ·subst SO
  rcases List.eq_nil_or_concat rs with rfl | ⟨rs0,m,rfl⟩
  ·refine(Ht B D lo hi R ao fo 17 a x ab fb ext bk false l l us [] us [] c w h (fun Y hf=>Ew D ext bk a x c Y) (fun Y hf=>?_)).mono (fun e w' ⟨k1,k2⟩=>⟨false,l,us,[],.inr (.inr (.inr ⟨rfl,rfl,rfl,(fun e=>by omega),(fun _=>⟨rfl,rfl⟩),fun e=>by omega⟩)),k1,k2⟩)
   refine(Vl B D lo hi R ao fo l ab fb us Y (h.fr hf)).mono ?_;rintro e w' ⟨rfl,k⟩;exact⟨rfl,ao,ab,fo,fb,lo,hi,(h.fr hf).fr k,.inr ⟨au _,au _⟩,lM.FA k⟩
  ·rw[List.concat_eq_append]at h ⊢
   refine(Ht B D lo hi R ao fo 17 a x ab fb ext bk true l m.l us (rs0++[m]) (us++[⟨l,ao,ab,fo,fb⟩]) rs0 c w h (fun Y hf=>Ew D ext bk a x c Y) (fun Y hf=>?_)).mono (fun e w' ⟨k1,k2⟩=>⟨true,m.l,_,rs0,.inr (.inr (.inl ⟨rfl,rfl,m,⟨l,ao,ab,fo,fb⟩,rfl,rfl,rfl,rfl⟩)),k1,k2⟩);refine(RU B D lo hi R ao fo l ab fb us rs0 m Y (h.fr hf)).mono ?_;rintro e w' ⟨rfl,lR,mg,mV,mX,k1,k2⟩;exact⟨rfl,lR,mg,mV,mX,_,_,k1,.inl (au _),k2⟩
 exact YZ d a x ext bk c (by omega) h16 SO (fun Y hf=>JX D d ext bk a x c Y (by omega))
theorem Dn {w:World}{B D lo hi Q:Nat}{R ao fo:Int}{l:List Int}{ab fb:Bool}{us rs:List Mo}(h:jY w B D R l ao ab fo fb us rs lo hi)(hQ:w.heap[Q]?=some (.cells #[.pointer (some ⟨D,0,none⟩)] 59 (0,0)))(Bp:Q≠D)(d a x:Int)(ext bk:Bool)(c:ByteArray)(hc:c.size<=4096) :
 Calls prog 7 #[.pointer (some ⟨Q,0,none⟩),.agg (opC d ext a x bk c)] w (NX w B D lo hi R d l us rs):=by
 have SM:D<w.heap.size:=by
  obtain⟨vB,Z,P,Bl,V,Ls,vU,vR,L,aim,goal,hD,_⟩:=h.x;exact iO hD
 exact WD Q D B lo hi R d a x ext bk c (fun mv l' us' rs'=>Stp d l us rs mv l' us' rs') w hQ h.bw Bp SM h.b9 h.hw (fun Y hf=>Vp (h.fr hf) d a x ext bk c hc)
theorem NE (w:World):Calls prog 84 #[.agg #[.int .i64 10,.int .i64 20]] w fun e w'=>e=.returned .nilIface/\Fr [] w w':=by
 have H1:=hid (fun(Y:World)=>Km 10 Y);have H2:=hid (fun(Y:World)=>Km 20 Y);rw[show Tq 10=false from rfl]at H1;rw[show Tq 20=false from rfl]at H2;go_enter func84,ntmps84
 go_wp2_with (first
  | (go_at_call 121;have hq:=KE;clear hq;refine(H2.out _).mono ?_;rintro e w' ⟨rfl,rfl⟩)
  | (go_at_call 121;refine(H1.out _).mono ?_;rintro e w' ⟨rfl,rfl⟩;have KE:=hid trivial))
 go_ret;exact⟨rfl,(Fr.refl [] w).alloc _⟩
theorem RZ (t:ByteArray)(w:World)(ht:t.size<=400):Calls prog 44 #[.string t,.int .i64 2,.agg #[.int .i64 10,.int .i64 20]] w fun e w'=>e=.returned .nilIface/\Fr [] w w':=by
 obtain⟨wb,hwb⟩:∃wb,wb=w.alloc (.cells #[.int .i64 10,.int .i64 20] 56):=⟨_,rfl⟩;have j8:=hid (show Fr [] w wb by rw[hwb];exact(Fr.refl [] w).alloc _);have nD:=hid (show wb.heap[w.heap.size]?=some (.cells #[.int .i64 10,.int .i64 20] 56 (0,0)) by rw[hwb];exact iL w _);have H83:=hid (PG t 2 wb ht (.inr (.inr rfl)));have H84:=hid (fun(Y:World)=>NE Y);have m0:=iG nD.out (i:=0) (v:=.int .i64 10) rfl;have m1:=iG nD.out (i:=1) (v:=.int .i64 20) rfl;go_enter func44,ntmps44;go_wp2_with fail;rw[<-hwb];clear hwb;refine H83.out.mono ?_;rintro e w1 ⟨rfl,rfl⟩;go_wp2_with fail;refine(H84.out _).mono ?_;rintro e w2 ⟨rfl,hf2⟩;have i_:=hid (j8.out.trans hf2);clear hf2;go_wp2;go_ret;exact⟨rfl,i_.out⟩
theorem Y0 {s:ByteArray}{n:Nat}(h:Dec.Ends s n):iR (bnd s n) ((s.size:Nat):Int) 0 false=(0,false):=De (jW h) (by omega)
theorem J0 (c:ByteArray)(m:Nat)(R:Int)(w:World)(hG:Gr w)(hR:-9223372036854775808<=R/\R<=9223372036854775807)(hm:Dec.Ends c m)(hc:c.size<=1000000)(hz:(tu (qI c m)).size<=400)(h9:9<w.heap.size) :
 Calls prog 23 #[.string c,.int .i64 2,.agg #[.int .i64 10,.int .i64 20],.int .i64 R] w fun e w'=>∃D,e=.returned (.tuple #[.pointer (some ⟨D,0,none⟩),.nilIface])/\jY w' w.heap.size D R (qI c m) 0 false 0 false [] [] 0 w'.heap.size/\Fr [] w w':=by
 obtain⟨t,ht⟩:∃t,t=tu (qI c m):=⟨_,rfl⟩;obtain⟨wb,hwb⟩:∃wb,wb=w.alloc (.cells #[.int .i64 10,.int .i64 20] 56):=⟨_,rfl⟩;have j8:=hid (show Fr [] w wb by rw[hwb];exact(Fr.refl [] w).alloc _);have nD:=hid (show wb.heap[w.heap.size]?=some (.cells #[.int .i64 10,.int .i64 20] 56 (0,0)) by rw[hwb];exact iL w _);have hV:Vt (qI c m):=⟨fun r hr=>(Fj c m r hr).1,fun r hr=>(Fj c m r hr).2,hz⟩
 have Nz:=hid (show Calls prog 43 #[.string c] wb fun e w'=>e=.returned (.string t)/\Fr [] wb w' by
  have k:=zA c m wb hc hm (lB hG.f.t3 j8.out) (lB hG.f.t4 j8.out)
  rw[Dg,<-ht]at k
  exact k.mono (fun e w' ⟨k1,k2⟩=>⟨k1,Fr.of_below k2⟩))
 have H44:=hid (fun(Y:World)=>RZ t Y (by rw[ht];exact hz))
 have U9:=hid (fun(W Y:World) (hf:Fr [] w W) (D:Nat) (hD:W.heap.size=D) (hY:Y=W.alloc (.cells #[.int .i64 2,.int .i64 10,.int .i64 20,.int .i64 R,.string ⟨#[]⟩,.slice none 0 0,.pointer none,.slice none 0 0,.slice none 0 0] 85))=>show Calls prog 45 #[.pointer (some ⟨D,0,none⟩),.agg #[.string t,.int .i64 0,.bool false,.int .i64 0,.bool false]] Y fun e w'=>e=.returned (.tuple #[])/\jY w' w.heap.size D R (qI c m) 0 false 0 false [] [] 0 w'.heap.size/\Fr [] w w' by
  have Y3:Fr [] w Y:=by rw[hY];exact hf.alloc _
  have hDo:Y.heap[D]?=some (.cells #[.int .i64 2,.int .i64 10,.int .i64 20,.int .i64 R,.string ⟨#[]⟩,.slice none 0 0,.pointer none,.slice none 0 0,.slice none 0 0] 85 (0,0)):=by rw[hY,<-hD];exact iL W _
  have hws:=hf.size
  have afX:Mid Y Y w.heap.size D R ⟨#[]⟩ [] [] 0:=⟨⟨_,_,_,_,hDo,fQ _ _ _ _,fQ _ _ _ _,(fun g e=>by cases e),fun g _=>.inr (aN _)⟩,[],Fr.refl [] Y,fun k hk=>absurd hk aj⟩
  rw[ht]
  refine(yA D w.heap.size R 0 0 ⟨#[]⟩ (qI c m) false false [] [] 0 Y Y afX (hG.fr Y3 (fun k hk=>absurd hk aj)) (by omega) h9 (iO hDo) hR hV (fun m hm=>by cases hm) (fun m hm=>by cases hm) (by decide)).mono ?_
  rintro e w' ⟨rfl,k2,k3⟩
  rw[Y0 hV.ends]at k2
  obtain⟨vB,Z,P,Bl,V,Ls,vU,vR,L,aim,goal,q1,q2,q3,q4,q5,q6,q7,q8,q9,Wy,Wz,WA⟩:=k2.x
  refine⟨rfl,⟨⟨vB,Z,P,Bl,V,Ls,vU,vR,L,aim,goal,q1,q2,q3,q4,q5,q6,q7,q8,aN _,Wy,Wz,WA⟩,k2.pa,k2.pf,k2.t,k2.mu,k2.mr,k2.n6,k2.r,k2.bD,k2.b9,k2.g,k2.bw,k2.hw⟩,⟨k3.os.trans Y3.os,k3.tape.trans Y3.tape,k3.output.trans Y3.output,aK Y3.size k3.size,fun k hk _=>(k3.low k hk (aM hk Y3.size)).trans (Y3.block k hk aj)⟩⟩)
 have m0:=iG nD.out (i:=0) (v:=.int .i64 10) rfl;have m1:=iG nD.out (i:=1) (v:=.int .i64 20) rfl;clear hG hm hV hz ht;go_enter func23,ntmps23;go_wp2_with fail;rw[<-hwb];clear hwb;refine Nz.out.mono ?_;rintro e w1 ⟨rfl,hf1⟩;have jc:=hid (j8.out.trans hf1);have lT:=hid (iJ nD.out hf1 aj);clear hf1 Nz m0 m1;have m0:=iG lT.out (i:=0) (v:=.int .i64 10) rfl;have m1:=iG lT.out (i:=1) (v:=.int .i64 20) rfl;go_wp2_with fail;refine(H44.out w1).mono ?_;rintro e w2 ⟨rfl,hf2⟩;have i_:=hid (jc.out.trans hf2);have jO:=hid (iJ lT.out hf2 aj);clear hf2 H44 m0 m1;have m0:=iG jO.out (i:=0) (v:=.int .i64 10) rfl;have m1:=iG jO.out (i:=1) (v:=.int .i64 20) rfl;go_wp2_with fail;refine(U9.out w2 _ i_.out _ rfl rfl).mono ?_;rintro e w4 ⟨rfl,hd,jG⟩;have HD4:=hid hd;have jI:=hid jG;clear hd jG U9 m0 m1;go_wp2;refine fE (results_tmp2 rfl _ _ _) rfl ?_;exact⟨_,rfl,HD4.out,jI.out⟩
end Go.Proofs.YtnakejhohdbfdacGreatDoor.Cls.Dc
namespace Go.Proofs.YtnakejhohdbfdacGreatDoor
open Go.RowKit j9 Go.Proofs.Tryz
def Y4 (w:World)(x:Int):World:=w.alloc (.cells #[.int .i64 x,.nilIface] 121)
theorem J1 (s:ByteArray)(b:Int)(w:World)(hs:400<s.size) :
 Calls prog 83 #[.string s,.int .i64 b] w fun e w'=>e=.returned (.iface 117 (.pointer (some ⟨w.heap.size,0,none⟩)))/\w'=Y4 w 1:=by
 have hd1:decide ((400:Int)<(s.size:Int))=true:=bQ (by omega);have hd2:decide (400<s.size)=true:=bQ (by omega);go_enter func83,ntmps83;go_wp2;go_ret;exact⟨rfl,rfl⟩
end Go.Proofs.YtnakejhohdbfdacGreatDoor
namespace Go.Proofs.YtnakejhohdbfdacGreatDoor.As
open Go.RowKit Go.Extern.Stop Go.Stop Go.Extern Go.Proofs.Tryz
abbrev va (t:Nat)(a:Addr):Value:=.agg #[ty t,.pointer (some a),.int .u64 150]
theorem R3 (t:Addr)(w:World):(ReflectliteValue.unpack (.iface 119 (.pointer (some t)))).run prog w=.ok (va 119 ⟨w.heap.size,0,none⟩) (w.alloc (.cells #[.pointer (some t)] 119)):=by kernel_rfl
theorem Vq (t:Addr)(w:World):(ReflectliteValue.unpack (.iface 117 (.pointer (some t)))).run prog w=.ok (va 117 ⟨w.heap.size,0,none⟩) (w.alloc (.cells #[.pointer (some t)] 117)):=by kernel_rfl
theorem R4 (h : Value) (w : World) : (Go.method 489 230 (.agg #[h]) "Kind").run prog w = .ok (256, h) w := by kernel_rfl
theorem R5 (h : Value) (w : World) : (Go.method 489 230 (.agg #[h]) "Elem").run prog w = .ok (277, .agg #[h]) w := by kernel_rfl
theorem R6 (h : Value) (w : World) : (Go.method 489 230 (.agg #[h]) "Implements").run prog w = .ok (278, .agg #[h]) w := by kernel_rfl
theorem R7 (h : Value) (w : World) : (Go.method 489 230 (.agg #[h]) "AssignableTo").run prog w = .ok (275, .agg #[h]) w := by kernel_rfl
theorem type100 (a : Addr) (w : World) : (ReflectliteValue.methodAny (ReflectliteValue.valueError "reflectlite.Value.Type" 0) (fun t _ _ _ => ReflectliteType.toType t) #[va 119 a]).run prog w = .ok (rty 119) w := by kernel_rfl
theorem Vr (w:World):((ReflectliteType.abiMethod fun t=>(fun a:Nat=>Value.int IntKind.u8 (a:Int)) <$> Rtype.kind t) #[ty 119]).run prog w=.ok (.int .u8 22) w:=by kernel_rfl
theorem Y5 (w:World):((ReflectliteType.abiMethod fun t=>(fun a:Nat=>Value.int IntKind.u8 (a:Int)) <$> Rtype.kind t) #[ty 117]).run prog w=.ok (.int .u8 22) w:=by kernel_rfl
theorem Vs (w:World):(ReflectliteType.method ReflectliteType.elem #[.agg #[ty 119]]).run prog w=.ok (rty 117) w:=by kernel_rfl
theorem Y6 (w : World) : (ReflectliteType.relation "Implements" ReflectliteType.implements_ #[.agg #[ty 117], rty 71]).run prog w = .ok (.bool true) w := by kernel_rfl
theorem R8 (v:Value)(w:World):(ReflectliteType.typeOf #[.iface 117 v]).run prog w=.ok (rty 117) w:=by kernel_rfl
theorem Y7 (w : World) : (ReflectliteType.relation "AssignableTo" ReflectliteType.assignableTo #[.agg #[ty 117], rty 117]).run prog w = .ok (.bool true) w := by kernel_rfl
theorem NF (w:World):(Rtype.elem? 119).run prog w=.ok (some 117) w:=by kernel_rfl
theorem afY (p:Addr)(w:World):(ReflectliteValue.mk 117 p ReflectliteValue.flagAddr).run prog w=.ok (vv 117 p) w:=by kernel_rfl
theorem Hz (a:Addr)(w:World):(ReflectliteValue.parts (va 119 a)).run prog w=.ok (some (119,a,150)) w:=by kernel_rfl
theorem Vu (a:Addr)(w:World):(ReflectliteValue.parts (va 117 a)).run prog w=.ok (some (117,a,150)) w:=by kernel_rfl
theorem R9 (a:Addr)(w:World):(ReflectliteValue.parts (vv 117 a)).run prog w=.ok (some (117,a,406)) w:=by kernel_rfl
theorem R_ (w:World):(Rtype.directlyAssignable 117 117).run prog w=.ok true w:=by kernel_rfl
theorem Ey (z:Sem Value)(f:TypeId->Addr->Nat->Nat->Sem Value)(v:Value)(t:TypeId)(a:Addr)(fl:Nat)(p:Program)(w:World)(h:(ReflectliteValue.parts v).run p w=.ok (some (t,a,fl)) w) :
 (ReflectliteValue.method z f #[v]).run p w=(f t a fl (fl % 32)).run p w:=by
 change (Bind.bind (ReflectliteValue.parts v) _).run p w=_
 rw[Sem.run_bind,h];rfl
theorem Sa (a p:Addr)(W:World)(ha:W.cell? a=some (.pointer (some p))) :
 (ReflectliteValue.method (ReflectliteValue.valueError "reflectlite.Value.IsNil" 0) ReflectliteValue.isNil #[va 119 a]).run prog W = .ok (.bool false) W := by
 rw[Ey _ _ _ _ _ _ _ _ (Hz a W)];simp[ReflectliteValue.isNil,loadVar,isAgg,underlying,underlying119,ha,Result.andThen]
theorem Sb (a p:Addr)(W:World)(ha:W.cell? a=some (.pointer (some p))) :
 (ReflectliteValue.method (ReflectliteValue.valueError "reflectlite.Value.Elem" 0) ReflectliteValue.elem #[va 119 a]).run prog W = .ok (vv 117 p) W := by
 rw[Ey _ _ _ _ _ _ _ _ (Hz a W)];simp[ReflectliteValue.elem,loadVar,isAgg,underlying,underlying119,ha,Result.andThen,NF,afY]
theorem acs (ta b e:Addr)(old:Value)(W:World)(hb:W.cell? b=some (.pointer (some e)))(ht:W.cell? ta=some old)(hf:W.frozen? ta=false) :
 (ReflectliteValue.set #[vv 117 ta,va 117 b]).run prog W=.ok (.tuple #[]) (W.setCell ta (.pointer (some e))):=by
 change (Bind.bind (ReflectliteValue.parts (vv 117 ta)) _).run prog W=_
 rw[Sem.run_bind,R9]
 change (Bind.bind (ReflectliteValue.parts (va 117 b)) _).run prog W=_
 rw[Sem.run_bind,Vu];simp[ReflectliteValue.flagAddr,loadVar,isAgg,underlying,underlying117,hb,Result.andThen,R_,storeVar,Value.cells,storeCells,Addr.add];rw[run_store prog W ta _ _ (by rfl)];simp[ht,hf]
theorem Y8 (e t:Addr)(old:Value)(w:World)(hg:w.cell? ⟨3,0,none⟩=some (rty 71))(ht0:w.cell? t=some old)(hf0:w.frozen? t=false) :
 Calls prog 46 #[.iface 117 (.pointer (some e)),.iface 119 (.pointer (some t))] w fun ev w'=>ev=.returned (.bool true)/\w'=w4 w e t:=by
 have h93:=@run_callFunc_extern prog 87 _ (fun args=>ReflectliteValue.unpack (args.getD 0 (.tuple #[]))) func87 (by kernel_rfl) (by kernel_rfl) (by kernel_rfl) (by kernel_rfl)
 have h94 := @run_callFunc_extern prog 88 _ (ReflectliteValue.methodAny (ReflectliteValue.valueError "reflectlite.Value.Type" 0) (fun t _ _ _ => ReflectliteType.toType t)) func88 (by kernel_rfl) (by kernel_rfl) (by kernel_rfl) (by kernel_rfl)
 have h95 := @run_callFunc_extern prog 89 _ (ReflectliteValue.method (ReflectliteValue.valueError "reflectlite.Value.IsNil" 0) ReflectliteValue.isNil) func89 (by kernel_rfl) (by kernel_rfl) (by kernel_rfl) (by kernel_rfl)
 have akF:=@run_callFunc_extern prog 256 _ (ReflectliteType.abiMethod fun t=>do pure (.int .u8 (<-Rtype.kind t))) func256 (by kernel_rfl) (by kernel_rfl) (by kernel_rfl) (by kernel_rfl);have akG:=@run_callFunc_extern prog 277 _ (ReflectliteType.method ReflectliteType.elem) func277 (by kernel_rfl) (by kernel_rfl) (by kernel_rfl) (by kernel_rfl)
 have akH := @run_callFunc_extern prog 278 _ (ReflectliteType.relation "Implements" ReflectliteType.implements_) func278 (by kernel_rfl) (by kernel_rfl) (by kernel_rfl) (by kernel_rfl)
 have akI:=@run_callFunc_extern prog 123 _ ReflectliteType.typeOf func123 (by kernel_rfl) (by kernel_rfl) (by kernel_rfl) (by kernel_rfl)
 have akJ := @run_callFunc_extern prog 275 _ (ReflectliteType.relation "AssignableTo" ReflectliteType.assignableTo) func275 (by kernel_rfl) (by kernel_rfl) (by kernel_rfl) (by kernel_rfl)
 have akK := @run_callFunc_extern prog 124 _ (ReflectliteValue.method (ReflectliteValue.valueError "reflectlite.Value.Elem" 0) ReflectliteValue.elem) func124 (by kernel_rfl) (by kernel_rfl) (by kernel_rfl) (by kernel_rfl)
 have akL:=@run_callFunc_extern prog 125 _ ReflectliteValue.set func125 (by kernel_rfl) (by kernel_rfl) (by kernel_rfl) (by kernel_rfl);have f1:=R8;have f2:=R7;have f3:=Y7;have f4:=Vq;have f5:=R3;have f6:=type100;have f7:=R4;have f8:=R5;have f9:=R6;have f10:=Vr;have f11:=Y5;have f12:=Vs;have f13:=Y6;have hlt:3<w.heap.size:=fC _ _ hg;have htl:t.block<w.heap.size:=by
  rcases cH t.block w.heap.size with h | h
  ·exact h
  ·simp[World.cell?,Array.getElem?_eq_none h]at ht0
 have n8:=Sa ⟨w.heap.size,0,none⟩ t (w2 w t) (by simp[w2,w1]);have hg2:(w2 w t).cell? ⟨3,0,none⟩=some (rty 71):=by
  rw[w2,gH _ _ ⟨3,0,none⟩ (by simp[w1];omega),w1,gH _ _ ⟨3,0,none⟩ hlt];exact hg
 have el:=Sb ⟨w.heap.size,0,none⟩ t (w3 w t) (by rw[w3,gH _ _ _ (by simp[w2,w1];omega)];simp[w2,w1]);have st:=acs t ⟨w.heap.size+1+1+1,0,none⟩ e old ((w3 w t).alloc (.cells #[.pointer (some e)] 117))
  (by rw[fX _ _ _ _ (by simp[w3,w2,w1])];rfl)
  (by rw[gH _ _ t (by simp[w3,w2,w1];omega),w3,gH _ _ t (by simp[w2,w1];omega),w2,gH _ _ t (by simp[w1];omega),w1,gH _ _ t htl];exact ht0)
  (by rw[h_ _ _ t (by simp[w3,w2,w1];omega),w3,h_ _ _ t (by simp[w2,w1];omega),w2,h_ _ _ t (by simp[w1];omega),w1,h_ _ _ t (Nat.ne_of_lt htl)];exact hf0)
 unfold w4;dsimp only[w3,w2,w1,ty,rty,va,vv]at *;go_enter func46,ntmps46;go_wp2;refine wp_loop_rounds 1 ?_;rw[rounds_succ];go_wp2;go_ret;exact⟨rfl,rfl⟩
end Go.Proofs.YtnakejhohdbfdacGreatDoor.As
namespace Go.Proofs.YtnakejhohdbfdacGreatDoor
open Go.RowKit j9 Go.Proofs.Tryz
theorem As.acu (w:World)(e:Addr)(b:Nat):Fr [b] w (As.w4 w e ⟨b,0,none⟩):=by
 unfold As.w4 As.w3 As.w2 As.w1;exact(((((Fr.refl [b] w).alloc _).alloc _).alloc _).alloc _).set (by simp) _
theorem As.Vv (w:World)(e:Addr)(b:Nat)(old:Value)(h:w.cell? ⟨b,0,none⟩=some old):(As.w4 w e ⟨b,0,none⟩).cell? ⟨b,0,none⟩=some (.pointer (some e)):=by
 unfold As.w4;have hf:Fr [] w ((As.w3 w ⟨b,0,none⟩).alloc (.cells #[.pointer (some e)] 117)):=by
  unfold As.w3 As.w2 As.w1;exact((((Fr.refl [] w).alloc _).alloc _).alloc _).alloc _
 exact gu _ _ _ (hf.cell h (by simp))
theorem J2 (P:Nat)(x:Int)(w:World)(hg:w.cell? ⟨3,0,none⟩=some (As.rty 71))(hx:w.cell? ⟨P,0,none⟩=some (.int .i64 x)) :
 Calls prog 24 #[.iface 117 (.pointer (some ⟨P,0,none⟩))] w fun e w'=>e=.returned (.int .i64 x)/\Fr [] w w':=by
 obtain⟨v,hv⟩:∃v,v=w.alloc (.cells #[.pointer none] 117):=⟨_,rfl⟩;have fv:Fr [] w v:=by rw[hv];exact(Fr.refl [] w).alloc _
 have hP:P<w.heap.size:=by
  rcases cH P w.heap.size with h | h
  ·exact h
  ·simp[World.cell?,Array.getElem?_eq_none h]at hx
 have gv:v.cell? ⟨3,0,none⟩=some (As.rty 71):=fv.cell hg (by simp);have tv:v.cell? ⟨w.heap.size,0,none⟩=some (.pointer none):=by rw[hv];simp
 have zv:v.frozen? ⟨w.heap.size,0,none⟩=false:=by rw[hv];simp
 have HA:=hid (As.Y8 ⟨P,0,none⟩ ⟨w.heap.size,0,none⟩ _ v gv tv zv);have f4:=As.acu v ⟨P,0,none⟩ w.heap.size;have c4:=As.Vv v ⟨P,0,none⟩ w.heap.size _ tv;have x4:(As.w4 v ⟨P,0,none⟩ ⟨w.heap.size,0,none⟩).cell? ⟨P,0,none⟩=some (.int .i64 x):=f4.cell (fv.cell hx (by simp)) (by simp;omega);have HF:=hid ((fv.mono (T:=[w.heap.size]) (by simp)).trans f4);generalize As.w4 v ⟨P,0,none⟩ ⟨w.heap.size,0,none⟩=W at *;clear f4 gv tv zv fv;subst hv;go_enter func24,ntmps24;go_wp2_with (first | (go_at_call 46;refine HA.out.mono ?_;rintro e w1 ⟨rfl,rfl⟩));go_ret;exact⟨rfl,HF.out.mono (by simp)⟩
end Go.Proofs.YtnakejhohdbfdacGreatDoor

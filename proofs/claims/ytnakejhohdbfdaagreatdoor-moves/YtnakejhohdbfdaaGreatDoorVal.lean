import Derived.Test.YtnakejhohdbfdaaGreatDoorVak
import Derived.Laws.StructEq
import Derived.Lib.Builder
set_option maxHeartbeats 4000000
set_option maxRecDepth 100000
namespace Go.Proofs.YtnakejhohdbfdaaGreatDoor.mE
open Go.RowKit gJ Go.Proofs.Tryz
theorem zg {s:ByteArray}{n k:Nat}(h:k<n):(gJ.cells (B5 s n))[k * 3]?=some (.int .i32 (rune s k))/\(gJ.cells (B5 s n))[k * 3+1]?=some (.int .i64 (pos s k:Nat))/\(gJ.cells (B5 s n))[k * 3+2]?=some (.int .i64 (pos s (k+1):Nat)):=p7 _ _ _ (y_ s n k h)
theorem runs:∀(s:ByteArray),∃n,gJ.Ends s n:=by
 intro s;have key:∀f k,s.size - pos s k<=f->pos s k<=s.size->(∀j,j<k->pos s j<s.size)->∃n,gJ.Ends s n:=by
  intro f
  induction f with
  | zero=>intro k h1 h2 h3;exact⟨k,by omega,h3⟩
  | succ f ih =>
    intro k h1 h2 h3;by_cases hlt:pos s k<s.size
    ·have h4:=o7 s k
     have h5:=width_le s (pos s k) hlt;refine ih (k+1) (by omega) h5 (fun j hj=>?_)
     rcases aA (aM hj)with h | h
     ·exact h3 j h
     ·rw[h];exact hlt
    ·exact⟨k,by omega,h3⟩
 exact key s.size 0 (Nat.sub_le _ _) (aH _) (fun j hj=>absurd hj (bE _))
end Go.Proofs.YtnakejhohdbfdaaGreatDoor.mE
namespace Go.Proofs.YtnakejhohdbfdaaGreatDoor.mE
open Go.RowKit iK Go.Proofs.Tryz
theorem Mq (i:Nat)(hi:i<33)(r z:Int)(b:Nat)(w:World)(hr:w.cell? ⟨b,0,none⟩=some (.int .i32 r))(hz:w.cell? ⟨9,i * 3+1,none⟩=some (.int .i32 z)) :
 Calls prog 244 (#[.int .i64 i]++#[.pointer (some ⟨b,0,none⟩)]) w fun e w'=>e=.returned (.bool (decide (r<=z)))/\∃q,w'=w.drewN q:=by
 have hi1:(i:Int)<33:=by omega
 go_enter func244,ntmps244;go_wp2;go_quiet (fail);go_wp2;go_ret;exact⟨rfl,_,rfl⟩
theorem P_ (args:Array Value)(w:World):(callFunc 244 args).run prog w=.ok (.enter 244 args) w:=by kernel_rfl
theorem Uf (r:Int)(b:Nat)(w:World)(ht:TabAt w 9 gD)(hr:w.cell? ⟨b,0,none⟩=some (.int .i32 r)) :
 Calls prog 213 #[.int .i64 33,.func (.func 244) #[] #[.pointer (some ⟨b,0,none⟩)]] w fun e w'=>∃k:Nat,k<=33/\(∀t,t<k->decide (r<=ql gD t)=false)/\(∀t,k<=t->t<33->decide (r<=ql gD t)=true)/\e=.returned (.int .i64 k)/\∃q,w'=w.drewN q :=
 wP 244 #[.pointer (some ⟨b,0,none⟩)] 33 (fun i=>decide (r<=ql gD i)) w P_ (by decide)
  (fun m i hi=>Mq i hi r (ql gD i) b (w.drewN m) (by simpa using hr) (by simpa using (ht i (by rw[l9];exact hi)).2.1))
  (fun x y hxy hy h=>BS gD (-1) rJ r x y hxy (by rw[l9];exact hy) h)
theorem Mr (w:World) :
 Calls prog 175 #[] w fun e w'=>e=.returned (.slice (some ⟨w.heap.size,0,none⟩) 33 33)/\w'=w.alloc (pz gD):=by
 refine calls_of_wp func175 rfl ?_;refine wp_seq (wp_region_list (lN (aal 33) w (by kernel_rfl) ?_));refine wp_seq (wp_region_list (lN (Pe gD w.heap.size 33) (w.alloc (pz gD)) (by kernel_rfl) ?_));refine wp_ret ?_;exact eU (v:=Value.slice (some ⟨w.heap.size,0,none⟩) 33 33) (by kernel_rfl) (by kernel_rfl) ⟨rfl,rfl⟩
theorem Ms (r:Int)(w:World)(hns:¬(44032<=r/\r<=55203)) :
 Calls prog 111 #[.int .i32 r] w fun e w'=>e=.returned (.int .i64 (iK.look gD r))/\Below w.heap.size w w':=by
 generalize hv:iK.look gD r=v;have HV:Hid (iK.look gD r=v):=hv;clear hv;have HT:Hid (TabAt (w.alloc (pz gD)) w.heap.size gD):=Ek w gD;have hbel:Below w.heap.size w (w.alloc (pz gD)):=(fq _ _).alloc (ak _) _;by_cases hs1:44032<=r
 all_goals
  first
  | (have hs2:¬r<=55203:=fun h=>hns ⟨hs1,h⟩)
  | (have aeK:decide (44032<=r)=false:=by simpa using hs1)
  clear hns;go_enter func111,ntmps111;go_wp2_with (go_at_call 175;refine(Mr _).mono ?_;rintro e w' ⟨rfl,rfl⟩);go_loop [4] (fun s4=>∃k:Nat,k<=33/\s4=.int .i64 k/\Hid (∀t,t<k->hit r (pJ gD t,ql gD t,Dw gD t)=false)) (fun s4=>33 - (intOf s4).toNat)
  case atStart=>exact⟨0,aH _,rfl,hide (fun t ht=>absurd ht (bE _))⟩
  case round =>
   obtain⟨k,hk,rfl,HM⟩:=hrel;by_cases hlt:k<33
   ·obtain⟨c0,c1,c2⟩:=HT.out k (by rw[l9];exact hlt)
    by_cases h1:pJ gD k<=r
    ·by_cases h2:r<=ql gD k
     ·have E:Dw gD k=v:=(nN gD (-1) r rJ _ (rE gD k (by rw[l9];exact hlt)) (Gr h1 h2)).symm.trans HV.out
      rw[E]at c2;clear E;generalize pJ gD k=z0 at c0 h1;generalize ql gD k=z1 at c1 h2;go_wp2;go_ret;exact⟨rfl,hbel⟩
     ·have HN:Hid _:=qK HM.out (uQ (k:=k) (.inr (by omega)))
      generalize pJ gD k=z0 at c0 h1;generalize ql gD k=z1 at c1 h2;clear c2;go_wp2;go_round
      case rel=>exact⟨k+1,by omega,by go_num,HN⟩
      case measure=>simp[intOf];omega
    ·have HN:Hid _:=qK HM.out (uQ (k:=k) (.inl (by omega)))
     have h1':decide (pJ gD k<=r)=false:=by simpa using h1
     generalize pJ gD k=z0 at c0 h1 h1';clear c1 c2;go_wp2;go_round
     case rel=>exact⟨k+1,by omega,by go_num,HN⟩
     case measure=>simp[intOf];omega
   ·obtain rfl:k=33:=by omega
    have E:(0:Int)=v:=(Gs (l:=gD) (by rw[l9];exact HM.out)).symm.trans HV.out;subst E;go_wp2;go_ret;exact⟨rfl,hbel⟩
theorem Qa (r:Int)(w:World)(h1:44032<=r)(h2:r<=55203) :
 Calls prog 243 #[.int .i32 r] w fun e w'=>e=.returned (.int .i64 (kindOf r))/\w'=w:=by
 cases hs:sj r
 ·rw[KG h1 h2 hs]
  have hq:=Pg hs;clear hs;go_enter func243,ntmps243;go_wp2;go_ret;exact⟨rfl,rfl⟩
 ·rw[Gt h1 h2 hs]
  have hq:=KF hs;clear hs;go_enter func243,ntmps243;go_wp2;go_ret;exact⟨rfl,rfl⟩
theorem Mt (r:Int)(w:World)(h1:44032<=r)(h2:r<=55203) :
 Calls prog 111 #[.int .i32 r] w fun e w'=>e=.returned (.int .i64 (kindOf r))/\w'=w:=by
 cases hs:sj r
 ·rw[KG h1 h2 hs]
  have hq:=Pg hs;clear hs;go_enter func111,ntmps111;go_wp2;go_ret;exact⟨rfl,rfl⟩
 ·rw[Gt h1 h2 hs]
  have hq:=KF hs;clear hs;go_enter func111,ntmps111;go_wp2;go_ret;exact⟨rfl,rfl⟩
theorem rA (r:Int)(w:World) :
 Calls prog 111 #[.int .i32 r] w fun e w'=>e=.returned (.int .i64 (kindOf r))/\Below w.heap.size w w':=by
 by_cases h:44032<=r/\r<=55203
 ·exact(Mt r w h.1 h.2).mono fun e w' h=>⟨h.1,h.2 ▸ fq _ _⟩
 ·rw[Gu h];exact Ms r w h
theorem Qb (r:Int)(w:World)(h1:44032<=r)(h2:r<=55203) :
 Calls prog 223 #[.int .i32 r] w fun e w'=>e=.returned (.int .i64 (kindOf r))/\Below w.heap.size w w':=by
 have hc:=fun w=>Qa r w h1 h2
 generalize kindOf r=v at hc ⊢;go_enter func223,ntmps223;go_wp2_with (go_at_call 243;refine(hc _).mono ?_;rintro e w' ⟨rfl,rfl⟩);go_ret;exact⟨rfl,(fq _ _).alloc (ak _) _⟩
theorem Qc (r:Int)(w:World)(ht:TabAt w 9 gD)(hns:¬(44032<=r/\r<=55203)) :
 Calls prog 223 #[.int .i32 r] w fun e w'=>e=.returned (.int .i64 (iK.look gD r))/\Below w.heap.size w w':=by
 have hg:=ht.lt (by rw[l9];decide);have hb1:Below w.heap.size w (w.alloc (.cells #[.int .i32 r] 21)):=(fq _ _).alloc (ak _) _;have hs:=Uf r w.heap.size (w.alloc (.cells #[.int .i32 r] 21)) (ht.below hg hb1) (by simp);have HT:Hid (TabAt w 9 gD):=ht;clear ht;generalize hv:iK.look gD r=v;have HV:Hid (iK.look gD r=v):=hv;clear hv;by_cases hs1:44032<=r
 all_goals
  first
  | (have hs2:¬r<=55203:=fun h=>hns ⟨hs1,h⟩)
  | (have aeK:decide (44032<=r)=false:=by simpa using hs1)
  clear hns;go_enter func223,ntmps223;go_wp2_with (go_at_call 213;refine hs.mono ?_;rintro e w' ⟨k,hk,hlo,hhi,rfl,q,rfl⟩);have LO:Hid _:=hlo;clear hs hlo;by_cases hkn:k<33
  ·obtain⟨c0,c1,c2⟩:=(HT.out.below hg hb1) k (by rw[l9];exact hkn)
   clear c1;have hr2:=hhi k (ak _) hkn;clear hhi hb1;have BX:(k:Int)<33:=by omega
   have hd:decide ((k:Int)<33)=true:=by simpa using BX
   by_cases hfr:pJ gD k<=r
   ·have E:Dw gD k=v:=(BU gD (-1) rJ r k (by rw[l9];exact hkn) hfr hr2).symm.trans HV.out
    rw[E]at c2;clear E;generalize pJ gD k=z at c0 hfr;clear hr2;go_quiet (fail);go_wp2;go_ret;exact⟨rfl,((fq _ _).alloc (ak _) _).trans (below_drewN _ _ _)⟩
   ·have E:(0:Int)=v:=(uP gD (-1) rJ r k LO.out (fun _=>by omega)).symm.trans HV.out
    have hfr2:decide (pJ gD k<=r)=false:=by simpa using hfr
    subst E;generalize pJ gD k=z at c0 hfr hfr2;clear hr2;go_quiet (fail);go_wp2;go_ret;exact⟨rfl,((fq _ _).alloc (ak _) _).trans (below_drewN _ _ _)⟩
  ·have E:(0:Int)=v:=(uP gD (-1) rJ r k LO.out (fun h=>by rw[l9]at h;omega)).symm.trans HV.out
   subst E;have BX:¬(k:Int)<33:=by omega
   have hd:decide ((k:Int)<33)=false:=by simpa using BX
   clear hhi hb1;go_quiet (fail);go_wp2;go_ret;exact⟨rfl,((fq _ _).alloc (ak _) _).trans (below_drewN _ _ _)⟩
theorem Qd (r:Int)(w:World)(ht:TabAt w 9 gD) :
 Calls prog 223 #[.int .i32 r] w fun e w'=>e=.returned (.int .i64 (kindOf r))/\Below w.heap.size w w':=by
 by_cases h:44032<=r/\r<=55203
 ·exact Qb r w h.1 h.2
 ·rw[Gu h];exact Qc r w ht h
end Go.Proofs.YtnakejhohdbfdaaGreatDoor.mE
namespace Go.Proofs.YtnakejhohdbfdaaGreatDoor.mE
open Go.RowKit gJ ZB uS Go.Proofs.Tryz
abbrev gu (l:List Int):List Value:=l.map (Value.int .i64)
theorem info3:(Tryz.prog.info? 3).map (fun i=>(i.zero,i.size,i.bytes))=some (some (.int .i64 0),1,8):=by kernel_rfl
theorem one_cell (x:Int):∀u∈[Value.int .i64 x],u.oneCell'=true:=by
 intro u hu;rw[aj]at hu;subst hu;rfl
theorem own_ne {w:World}{base:Nat}{e:TypeId}{size:Nat}{v:Value}{n:Nat}{xs:List Value}(h:w.ownsRow base e size v n xs){k:Nat}{o:Obj}(hk:w.heap[k]?=some o)(ho:∀c f,o≠.cells c e f):some k≠v.ownBlock:=by
 intro e1
 rcases h.2 with⟨h1,_⟩ | ⟨g,cap,cur,h1,_,hg,_⟩
 ·rw[h1]at e1;cases e1
 ·rw[h1]at e1
  simp only[Value.ownBlock,dO]at e1;subst e1;rw[hk]at hg;exact ho _ _ (bW hg)
theorem Qe {w:World}{base:Nat}{e:TypeId}{size:Nat}{v:Value}{n:Nat}{xs:List Value}(h:w.ownsRow base e size v n xs){k:Nat}{s:ByteArray}{p:Nat}(hk:w.heap[k]?=some (.stringIter s p))(q:Nat):(w.iterAt k s q).ownsRow base e size v n xs:=by
 refine⟨h.1,?_⟩
 rcases h.2 with h1 | ⟨g,cap,cur,hv,hg,hh,r⟩
 ·exact .inl h1
 ·refine .inr ⟨g,cap,cur,hv,hg,?_,r⟩
  rw[Lib.iterAt_other w k g s q (fun e=>by rw[e,hk]at hh;cases hh)];exact hh
theorem Cq {w w':World}{base:Nat}{e:TypeId}{size:Nat}{v:Value}{n:Nat}{xs:List Value}(h:w.ownsRow base e size v n xs){k:Nat}(hg:w.grownBy w' (some k))(hk:some k≠v.ownBlock):w'.ownsRow base e size v n xs :=
 h.kept hg (.inr (fun e=>hk e.symm))
theorem Jm (w:World)(o1 o2:Obj)(s:ByteArray):(((w.alloc o1).alloc o2).iter s 0).heap[w.heap.size+1+1]?=some (.stringIter s 0):=by
 have e:((w.alloc o1).alloc o2).heap.size=w.heap.size+1+1:=by simp
 rw[<-e];exact World.iter_heap _ _ _
theorem GR (w:World)(o1 o2:Obj)(s:ByteArray):(((w.alloc o1).alloc o2).iter s 0).heap[w.heap.size+1]?=some o2:=by
 have e:(w.alloc o1).heap.size=w.heap.size+1:=by simp
 refine(Lib.alloc_old _ _ _ (by simp)).trans ?_;rw[<-e];exact fH _ _
theorem Mu (w:World)(o2:Obj)(s:ByteArray):(((w.alloc (.cells #[.int .i64 0] 3)).alloc o2).iter s 0).ownsRow w.heap.size 3 1 (.slice (some ⟨w.heap.size,0,none⟩) 1 1) 1 [.int .i64 0] :=
 ((fE (base:=w.heap.size) (e:=3) (size:=1) w #[.int .i64 0] 1 (ak _) (by decide) rfl).alloc o2).alloc _
theorem GS (w:World)(o1 o2:Obj)(s:ByteArray):Below w.heap.size w (((w.alloc o1).alloc o2).iter s 0) :=
 (((fq _ _).alloc (ak _) o1).alloc (by simp) o2).alloc (by simp;omega) _
theorem rT (l:List Int)(x:Int):gu l++[.int .i64 x]=gu (l++[x]):=by simp[gu]
theorem yt (l:List Int)(x:Int):(l++[x]).length=l.length+1:=by simp
theorem Cr (s:ByteArray)(w:World)(hs:s.size<=1000000)(ht:TabAt w 9 iK.gD) :
 Calls prog 201 #[.string s] w fun e w'=>∃n v,gJ.Ends s n/\e=.returned v/\w'.ownsRow w.heap.size 3 1 v (bnd s n).length (gu (bnd s n))/\Below w.heap.size w w':=by
 obtain⟨i0,hi,hz0,hz1,hz2⟩:=e_ info3;have HT:=hide ht;have h0:=ht.lt (by rw[iK.l9];decide);clear ht;go_enter func201,ntmps201;go_wp2_with fail
 go_loopw [3] (fun v wr=>∃k p:Nat,p<=s.size/\k<=p/\wr.heap[w.heap.size+1+1]?=some (.stringIter s p)/\Hid (p=pos s k)/\Hid (∀j,j<k->pos s j<s.size) /\
  Hid (wr.heap[w.heap.size+1]?=some (.cells #[.int .i64 (lastOf (pref (kf s) k)),.int .i64 (pV (pref (kf s) k)),.bool (jm (pref (kf s) k))] 307 (0,0))) /\
  Hid (wr.ownsRow w.heap.size 3 1 v (kF s k).length (gu (kF s k)))/\Hid (Below w.heap.size w wr)) (fun _ wr=>s.size - wr.iterPos (w.heap.size+1+1))
 case atStart=>exact⟨0,0,aH _,ak _,Jm _ _ _ _,hide rfl,hide (fun j hj=>absurd hj (bE _)),hide (GR _ _ _ _),hide (Mu _ _ _),hide (GS _ _ _ _)⟩
 case round =>
  obtain⟨k,p,hp,hkp,hit,HP,HJ,HA,HO,HB⟩:=hrel;have hlen:=pR s k;by_cases hlt:p<s.size
  ·have hw1:=width_pos s p
   have hw2:=width_le s p hlt;have hnx:=fun ty=>Lib.run_next_any_at (P:=prog) wr (w.heap.size+1+1) s p ty hit hlt
   have HQ:Hid (p+(Utf8.decode s p).2=pos s (k+1)):=by rw[HP.out];rfl
   have HK:Hid (iK.kindOf ((Utf8.decode s p).1:Nat)=kf s k):=by rw[HP.out];rfl
   generalize (Utf8.decode s p).1=r at hnx HK;generalize (Utf8.decode s p).2=n at hnx HQ hw1 hw2;have hJ2:Hid (∀j,j<k+1->pos s j<s.size):=by
    intro j hj
    rcases aA (aM hj)with h1 | h1
    ·exact HJ.out j h1
    ·rw[h1,<-HP.out];exact hlt
   have HI:=hide (Lib.iterAt_heap wr (w.heap.size+1+1) s p (p+n) hit);have It:=hide (Lib.below_iterAt HB.out (show w.heap.size<=w.heap.size+1+1 by omega) s (p+n));have Ug:=hide ((Lib.iterAt_other wr (w.heap.size+1+1) (w.heap.size+1) s (p+n) (by omega)).trans HA.out);have GP:Hid ((wr.iterAt (w.heap.size+1+1) s (p+n)).ownsRow w.heap.size 3 1 u3 (kF s k).length (gu (kF s k))):=Qe HO.out hit _;have HIT:=hide hit;generalize wr.iterAt (w.heap.size+1+1) s (p+n)=wi at hnx HI It Ug GP;have HC:=hide (Qd r wi (HT.out.below h0 It.out));have HK2:=hide HK.out.symm;rw[HK.out]at HC;generalize hkd:kf s k=kd at HC;have Iu:=hide hkd;clear hkd hit HK HK2 HO HA;go_wp2_with fail;refine HC.out.mono ?_;rintro e w1 ⟨rfl,hb1⟩;have HI1:Hid (w1.heap[w.heap.size+1+1]?=some (.stringIter s (p+n))):=by
    rw[hb1.block _ (aD.1 HI.out).1];exact HI
   have hA1:=hb1.block (w.heap.size+1) (aD.1 Ug.out).1;rw[Ug.out]at hA1;have HA1:=hide hA1;have kT:=hide (wQ GP.out hb1);have HB1:=hide (It.out.trans (hb1.mono It.out.size));clear hA1 hb1 HC HI It Ug GP;cases k with
   | zero =>
     have hp0:p=0:=HP.out;have hpz:¬(0:Int)<(p:Int):=by omega
     have hpd:decide ((0:Int)<(p:Int))=false:=by simpa using hpz
     have FU:=hide (Bk (w.heap.size+1) _ _ _ kd w1 HA1.out);have yg:=hide (own_ne kT.out HA1.out (by intro c f e;cases e));have hsz1:=HB1.out.size;have HH0:=hide hp0;clear hp0;go_wp2_with fail;refine FU.out.mono ?_;rintro e w3 ⟨rfl,hA3,hg3⟩;have k9:=hide (Cq kT.out hg3 yg.out);have HB3:=hide (HB1.out.grown hg3 (by omega) (by intro x hx;cases hx;omega));have HI3:Hid (w3.heap[w.heap.size+1+1]?=some (.stringIter s (p+n))):=by
      rw[hg3.block _ (aD.1 HI1.out).1 (by simp)];exact HI1.out
     have Eu:Hid (w3.heap[w.heap.size+1]?=some (.cells #[.int .i64 (lastOf (pref (kf s) (0+1))),.int .i64 (pV (pref (kf s) (0+1))),.bool (jm (pref (kf s) (0+1)))] 307 (0,0))):=by
      rw[pref,Iu.out];exact hide hA3
     clear hA3 hg3 FU;go_wp2;go_roundw
     case rel=>exact⟨0+1,p+n,by omega,by omega,HI3.out,HQ,hJ2,Eu,hide (by rw[lO rfl];exact k9.out),HB3⟩
     case measure=>rw[iterPos_of HI3.out,iterPos_of HIT.out];omega
   | succ m =>
     have hpz:(0:Int)<(p:Int):=by omega
     have CP:=OB (w.heap.size+1) _ _ _ kd w1 (fu w1 _ 0 _ _ _ HA1.out) (fu w1 _ 1 _ _ _ HA1.out) (fu w1 _ 2 _ _ _ HA1.out);rw[<-Iu.out,Po]at CP;have yg:=hide (own_ne kT.out HA1.out (by intro c f e;cases e));have HNI:=hide (own_ne kT.out HI1.out (by intro c f e;cases e));have hsz1:=HB1.out.size;cases hjn:jn s (m+1)
     ·rw[hjn]at CP
      have XI:=hide hjn;have Qf:=hide CP;clear hjn CP;rw[Iu.out]at Qf;have iG:=hide (kT.out.alloc (.cells #[.int .i64 p] 3));go_wp2_with fail;refine Qf.out.mono ?_;rintro e w1' ⟨rfl,rfl⟩;go_wp2_with (at_builtin;refine eV _ rfl _ _ 22 rfl w.heap.size 3 i0 _ 1 8 underlying22 hi hz0 hz1 hz2 rfl (by decide) _ _ _ rfl iG.out ⟨w1'.heap.size,0,none⟩ 1 1 [.int .i64 p] rfl rfl (cell_one_new _ _ _) (one_cell _) (by unfold maxLen;omega) (by omega) (by simp;omega) ?_);intro v' w2 mM hgrow hnil;have jD:Hid (w2.ownsRow w.heap.size 3 1 v' (kF s (m+1+1)).length (gu (kF s (m+1+1)))):=by
       rw[p8 XI.out,yt,<-rT,<-HP.out];exact hide mM
      have Mv:=hide ((HB1.out.alloc (by omega) (.cells #[.int .i64 p] 3)).grown hgrow (by simp;omega) (by intro x hx;exact(kT.out.lt x hx).1));have HI4:Hid (w2.heap[w.heap.size+1+1]?=some (.stringIter s (p+n))):=by
       rw[hgrow.block _ (by have:=(aD.1 HI1.out).1;simp;omega) HNI.out];exact(Lib.alloc_old _ _ _ (aD.1 HI1.out).1).trans HI1.out
      have hA4:=hgrow.block (w.heap.size+1) (by have:=(aD.1 HA1.out).1;simp;omega) yg.out;rw[Lib.alloc_old _ _ _ (aD.1 HA1.out).1,HA1.out]at hA4;have FU:=hide (Bk (w.heap.size+1) _ _ _ kd w2 hA4);have Uh:=hide (own_ne jD.out hA4 (by intro c f e;cases e));have hsz2:=Mv.out.size;clear mM hgrow hnil hA4 iG yg HNI kT;go_wp2_with fail;refine FU.out.mono ?_;rintro e w3 ⟨rfl,hA3,hg3⟩;have k9:=hide (Cq jD.out hg3 Uh.out);have HB3:=hide (Mv.out.grown hg3 (by omega) (by intro x hx;cases hx;omega));have HI3:Hid (w3.heap[w.heap.size+1+1]?=some (.stringIter s (p+n))):=by
       rw[hg3.block _ (aD.1 HI4.out).1 (by simp)];exact HI4.out
      have Eu:Hid (w3.heap[w.heap.size+1]?=some (.cells #[.int .i64 (lastOf (pref (kf s) (m+1+1))),.int .i64 (pV (pref (kf s) (m+1+1))),.bool (jm (pref (kf s) (m+1+1)))] 307 (0,0))):=by
       rw[pref,Iu.out];exact hide hA3
      clear hA3 hg3 FU;go_wp2;go_roundw
      case rel=>exact⟨m+1+1,p+n,by omega,by omega,HI3.out,HQ,hJ2,Eu,hide (by rw[show kF s (m+1+1)=kF s (m+1+1)from rfl];exact k9.out),HB3⟩
      case measure=>rw[iterPos_of HI3.out,iterPos_of HIT.out];omega
     ·rw[hjn]at CP
      have XI:=hide hjn;have Qf:=hide CP;clear hjn CP;rw[Iu.out]at Qf;have FU:=hide (Bk (w.heap.size+1) _ _ _ kd w1 HA1.out);go_wp2_with fail;refine Qf.out.mono ?_;rintro e w1' ⟨rfl,rfl⟩;go_wp2_with fail;refine FU.out.mono ?_;rintro e w3 ⟨rfl,hA3,hg3⟩;have k9:=hide (Cq kT.out hg3 yg.out);have HB3:=hide (HB1.out.grown hg3 (by omega) (by intro x hx;cases hx;omega));have HI3:Hid (w3.heap[w.heap.size+1+1]?=some (.stringIter s (p+n))):=by
       rw[hg3.block _ (aD.1 HI1.out).1 (by simp)];exact HI1.out
      have Eu:Hid (w3.heap[w.heap.size+1]?=some (.cells #[.int .i64 (lastOf (pref (kf s) (m+1+1))),.int .i64 (pV (pref (kf s) (m+1+1))),.bool (jm (pref (kf s) (m+1+1)))] 307 (0,0))):=by
       rw[pref,Iu.out];exact hide hA3
      clear hA3 hg3 FU;go_wp2;go_roundw
      case rel=>exact⟨m+1+1,p+n,by omega,by omega,HI3.out,HQ,hJ2,Eu,hide (by rw[lO XI.out];exact k9.out),HB3⟩
      case measure=>rw[iterPos_of HI3.out,iterPos_of HIT.out];omega
  ·have hnx:=fun ty=>Lib.run_next_end_at (P:=prog) wr (w.heap.size+1+1) s p ty hit hlt
   have HE:Hid (gJ.Ends s k):=⟨by rw[<-HP.out];omega,HJ.out⟩;have ajM:=HB.out.size;clear hit;by_cases hs0:0<s.size
   ·have hs1:(0:Int)<(s.size:Int):=by omega
    have iG:=hide (HO.out.alloc (.cells #[.int .i64 s.size] 3));go_wp2_with (at_builtin;refine eV _ rfl _ _ 22 rfl w.heap.size 3 i0 _ 1 8 underlying22 hi hz0 hz1 hz2 rfl (by decide) _ _ _ rfl iG.out ⟨wr.heap.size,0,none⟩ 1 1 [.int .i64 s.size] rfl rfl (cell_one_new _ _ _) (one_cell _) (by unfold maxLen;omega) (by omega) (by simp;omega) ?_);intro v' w2 mM hgrow hnil;have jD:Hid (w2.ownsRow w.heap.size 3 1 v' (bnd s k).length (gu (bnd s k))):=by
     rw[bnd,ay hs0,yt,<-rT];exact hide mM
    have Mv:=hide ((HB.out.alloc (by omega) (.cells #[.int .i64 s.size] 3)).grown hgrow (by simp;omega) (by intro x hx;exact(HO.out.lt x hx).1));clear mM hgrow hnil iG;go_wp2;go_ret;exact⟨k,_,HE.out,rfl,jD.out,Mv.out⟩
   ·have hs1:¬(0:Int)<(s.size:Int):=by omega
    go_wp2;go_ret;exact⟨k,HE.out,_,rfl,(by rw[bnd,au hs0];exact HO.out),HB.out⟩
end Go.Proofs.YtnakejhohdbfdaaGreatDoor.mE

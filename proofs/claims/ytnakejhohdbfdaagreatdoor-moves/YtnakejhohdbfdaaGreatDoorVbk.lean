import Derived.Test.YtnakejhohdbfdaaGreatDoorVbj
set_option maxHeartbeats 4000000
set_option maxRecDepth 100000
namespace Go.Proofs.YtnakejhohdbfdaaGreatDoor
open Go.RowKit jN Lay uS Go.Shelf Go.Proofs.Tryz
attribute [local go_sem] Oper.semAt_some
theorem VJ {s:ByteArray}(hs:s.size=0):bnd s 0=[0]:=by
 rw[bnd,au (by omega)];rfl
theorem NK (s:ByteArray)(b:Int)(aW aB:Option Addr)(nW cW nB cB gL cL:Nat)(w:World)(hs:s.size=0)(ht:mE.TabAt w 9 iK.gD) :
 Calls prog 207 #[.agg #[.string s,.int .i64 b,.slice aW nW cW,.slice aB nB cB],.slice none 0 0,.slice (some ⟨gL,0,none⟩) 0 cL] w fun e w'=>∃gB cB,e=.returned (.agg #[.slice (some ⟨gB,0,none⟩) 1 cB,.slice none 0 0,.slice none 0 0])/\rowAt w' gB 1 [0]/\w.heap.size<=gB/\Fr [] w w':=by
 obtain⟨w2,hw2⟩:∃w2,w2=(w.alloc (.cells #[.string s,.int .i64 b,.slice aW nW cW,.slice aB nB cB] 35)).alloc (.cells #[.slice none 0 0,.slice none 0 0,.slice none 0 0] 163):=⟨_,rfl⟩;have f_:=hid (show Fr [] w w2 by rw[hw2];exact((Fr.refl [] w).alloc _).alloc _);have kT:=hid (show w2.heap[w.heap.size]?=some (.cells #[.string s,.int .i64 b,.slice aW nW cW,.slice aB nB cB] 35 (0,0)) by rw[hw2];exact fO (fU w _) ((Fr.refl [] _).alloc _) af);have acn:w2.heap.size=w.heap.size+2:=by rw[hw2];simp
 have iG:=hid (show w2.heap[w.heap.size+1]?=some (.cells #[.slice none 0 0,.slice none 0 0,.slice none 0 0] 163 (0,0)) by
  have h:=fU (w.alloc (.cells #[.string s,.int .i64 b,.slice aW nW cW,.slice aB nB cB] 35)) (.cells #[.slice none 0 0,.slice none 0 0,.slice none 0 0] 163)
  rw[fI]at h;rw[hw2];exact h)
 have acF:=hid (mE.Cr s w2 (by omega) (wW ht f_.out));have HE:=hid (show gJ.Ends s 0 from⟨hs.symm,fun j hj=>absurd hj (bE _)⟩);have HBN:=hid (VJ hs);have k0:=fN kT.out (i:=0) (v:=.string s) rfl;clear ht hs;go_enter func207,ntmps207;go_wp2_with fail;rw[<-hw2];refine acF.out.mono ?_;rintro e w3 ⟨n',v,hn',rfl,own,hb3⟩;obtain rfl:=gJ.jT HE.out hn';rw[HBN.out]at own;have iO:=hid (f_.out.trans (Fr.of_below (S:=[]) hb3));have C8:=hid (fO iG.out (Fr.of_below (S:=[]) hb3) af);have own:w3.ownsRow w2.heap.size 3 1 v 1 (gu [0]):=own;obtain⟨gB,cB,hv⟩:=fR (by omega) own;subst hv;have wV:=hid (show rowAt w3 gB 1 [0]from fun j hj=>by rw[own.cellAt j (by omega),iJ hj]);have aco:=(fZ own).1;have hgB:=(fZ own).2;clear own hb3 hn' acF k0 hw2;have agx:w.heap.size+2<=w3.heap.size:=by have:=h_ C8.out;omega
 go_wp2_with fail;go_loopw [16] (fun ii wr=>ii=.int .i64 0/\Hid (wr.heap[w3.heap.size]?=some (.cells #[.slice (some ⟨gB,0,none⟩) 1 cB,.slice none 0 0,.slice none 0 0] 163 (0,0)))/\Hid (Fr [] w3 wr)) (fun _ _=>0)
 case atStart=>exact⟨rfl,hid (fU w3 _),hid ((Fr.refl [] w3).alloc _)⟩
 case round =>
  obtain⟨rfl,DX,HF⟩:=hrel;have A6:=hid (fO C8.out HF.out af);have c0:=fN DX.out (i:=0) (v:=.slice (some ⟨gB,0,none⟩) 1 cB) rfl;have c1:=fN DX.out (i:=1) (v:=.slice none 0 0) rfl;have c2:=fN DX.out (i:=2) (v:=.slice none 0 0) rfl;have r0:=fN A6.out (i:=0) (v:=.slice none 0 0) rfl;have r1:=fN A6.out (i:=1) (v:=.slice none 0 0) rfl;have r2:=fN A6.out (i:=2) (v:=.slice none 0 0) rfl;have rf0:=fT A6.out 0;have rf1:=fT A6.out 1;have rf2:=fT A6.out 2;have hne:w3.heap.size≠w.heap.size+1:=by omega
  have qi:=hid (show(((wr.setCell ⟨w.heap.size+1,0,none⟩ (.slice (some ⟨gB,0,none⟩) 1 cB)).setCell ⟨w.heap.size+1,1,none⟩ (.slice none 0 0)).setCell ⟨w.heap.size+1,2,none⟩ (.slice none 0 0)).heap[w.heap.size+1]?=some (.cells #[.slice (some ⟨gB,0,none⟩) 1 cB,.slice none 0 0,.slice none 0 0] 163 (0,0))from fP (fP (fP A6.out 0 _) 1 _) 2 _);have DY:=hid (show Fr [w.heap.size+1] wr (((wr.setCell ⟨w.heap.size+1,0,none⟩ (.slice (some ⟨gB,0,none⟩) 1 cB)).setCell ⟨w.heap.size+1,1,none⟩ (.slice none 0 0)).setCell ⟨w.heap.size+1,2,none⟩ (.slice none 0 0))from((((Fr.refl [w.heap.size+1] wr).set (aj.2 rfl) _).set (aj.2 rfl) _).set (aj.2 rfl) _));go_wp2_with fail;refine eU (eW (t:=163) (fr:=(0,0)) rfl _ _ (w.heap.size+1) _ _ rfl qi.out underlying163 rfl (by kernel_rfl)) rfl ?_;refine⟨gB,cB,rfl,(wV.out.fr HF.out af).fr DY.out (fun h=>by have:=aj.1 h;omega),by omega,((((iO.out.trans HF.out).mono (fun _ h _=>absurd h af):Fr [w.heap.size+1] w wr).trans DY.out).mono (fun x hx hlt=>by have:=aj.1 hx;omega))⟩
theorem NL (w:World):Calls prog 227 #[.slice none 0 0] w fun e w' =>
 e=.returned (.func (.func 248) #[] #[.pointer (some ⟨w.heap.size,0,none⟩)])/\w'=w.alloc (.cells #[.slice none 0 0] 29):=by
 go_enter func227,ntmps227;go_wp2;go_ret;exact⟨by simp,rfl⟩
theorem Sn (bx:Nat)(m l:Nat)(V':Unit->World->Prop)(W:World)(hb:W.cell? ⟨bx,0,none⟩=some (.slice none 0 0))(h0:V' () W) :
 CallsIn Fence.wide m prog 248 (#[.func (.yield l) #[] #[]]++#[.pointer (some ⟨bx,0,none⟩)]) W fun e B=>(∃v,e=.returned v)/\V' () B:=by
 have H0:=hid h0;clear h0;refine callsIn_of_wp func248 rfl trivial ?_ rfl;simp only[ntmps248,dD,bO,List.length_nil,Nat.reduceAdd,Nat.reduceSub,cY,cZ,dF,dw,bU,b8];gi_wp2;clear hb;gi_loopw [3] (fun a wr=>a=.int .i64 (-1)/\Hid (V' () wr)) (fun _ _=>0)
 case atStart=>exact⟨rfl,H0⟩
 case round =>
  obtain⟨rfl,HV⟩:=hrel;gi_wp2;go_end0;exact⟨⟨_,rfl⟩,HV.out⟩
structure VN (w:World)(B:Nat)(A:World):Prop where
 f:Fr [] w A
 n:B<=A.heap.size
 b:A.cell? ⟨w.heap.size+4,0,none⟩=some (.slice none 0 0)
theorem VN.below {w A A':World}{B:Nat}(h:VN w B A)(hB:w.heap.size+5<=B)(hb:Below B A A'):VN w B A' :=
 ⟨⟨hb.os.trans h.f.os,hb.tape.trans h.f.tape,hb.output.trans h.f.output,a_ h.f.size hb.size,fun k hk hn=>(hb.block k (by omega)).trans (h.f.block k hk hn)⟩,a_ h.n hb.size,(hb.cell (by show w.heap.size+4<B;omega)).trans h.b⟩
theorem Sr (gL cL ge m ce:Nat)(bs:Int)(w:World) :
 Calls prog 206 #[.slice none 0 0,.slice (some ⟨gL,0,none⟩) 0 cL,.int .i64 bs,.slice (some ⟨ge,0,none⟩) m ce] w fun e w'=>e=.returned (.tuple #[])/\Fr [] w w':=by
 refine(eX (n:=3)).1 ?_;refine callsIn_of_wp_marks func206 rfl trivial ?_ rfl;simp only[ntmps206,dD,bO,List.length_nil,Nat.reduceAdd,Nat.reduceSub,cY,cZ,dF,dw,bU,b8];gi_wp2_with (refine⟨trivial,?_⟩;gi_at_call 227;refine(eX.2 (NL _)).mono ?_;rintro e w' ⟨rfl,rfl⟩);obtain⟨W0,hW0⟩:∃W0,((((w.alloc (.cells #[.slice (some ⟨gL,0,none⟩) 0 cL] 22)).alloc (.cells #[.int .i64 bs] 3)).alloc (.cells #[.slice (some ⟨ge,0,none⟩) m ce] 22)).alloc (.cells #[.bool false] 4)).alloc (.cells #[.slice none 0 0] 29)=W0:=⟨_,rfl⟩;have hsz:W0.heap.size=w.heap.size+5:=by rw[<-hW0];simp
 have FX:VN w W0.heap.size W0:=by
  have k4:W0.heap[w.heap.size+4]?=some (.cells #[.slice none 0 0] 29 (0,0)):=by
   have h:=fU ((((w.alloc (.cells #[.slice (some ⟨gL,0,none⟩) 0 cL] 22)).alloc (.cells #[.int .i64 bs] 3)).alloc (.cells #[.slice (some ⟨ge,0,none⟩) m ce] 22)).alloc (.cells #[.bool false] 4)) (.cells #[.slice none 0 0] 29);rw[hW0]at h;simpa using h
  refine⟨?_,ak _,fN k4 (i:=0) rfl⟩;rw[<-hW0];exact(((((Fr.refl [] w).alloc _).alloc _).alloc _).alloc _).alloc _
 rw[hW0];refine vZ rfl (by omega) (gf:=248) (lb:=#[.pointer (some ⟨w.heap.size+4,0,none⟩)]) rfl trivial (enters_of func248 (by kernel_rfl) rfl)
  (encs:=fun x:Nat=>#[.int .i64 x,.agg #[.int .i32 0,.int .i64 0,.int .i64 0]]) (fun _=>rfl)
  (fun(_:Unit) A=>VN w W0.heap.size A) (fun _ _ h=>h.n) (fun _ _ _ h hb=>h.below (by omega) hb)
  (fun _ _=>False) (fun _ _=>()) () ()
  (fun l V' W h1 h2 h3 h4=>Sn _ _ l V' W (h1 () W h4).b h4)
  (fun _=>.cells #[.int .i32 0,.int .i64 0,.int .i64 0] 94)
  (fun x b=>{ tmps:=#[.slice none 0 0,.slice (some ⟨gL,0,none⟩) 0 cL,.int .i64 bs,.slice (some ⟨ge,0,none⟩) m ce,undef,.pointer (some ⟨w.heap.size,0,none⟩),.pointer (some ⟨w.heap.size+1,0,none⟩),.pointer (some ⟨w.heap.size+2,0,none⟩),.pointer (some ⟨w.heap.size+3,0,none⟩),.int .i64 x,.pointer (some ⟨b,0,none⟩),undef,undef,undef,.slice none 0 0,.func (.func 248) #[] #[.pointer (some ⟨w.heap.size+4,0,none⟩)],.int .i64 x,.agg #[.int .i32 0,.int .i64 0,.int .i64 0],undef,undef,undef,undef,undef,undef,undef,undef,undef,undef,undef,undef,undef,undef,undef,undef,undef,undef,undef,undef,undef,undef,undef,undef,undef,undef,undef,undef,undef,undef,undef],defers:=[] })
  FX ?assign ?body ?done
 case assign =>
  intro l x W K hK;gi_wp2;exact hK
 case body =>
  rintro l j x A b hV hF;exact hF.elim
 case done =>
  rintro D A hV hD hKd;have HV:=hid hV;clear hV FX hW0;gi_wp2;refine⟨by simp,.inl ⟨_,_,rfl,run_takeDeferred hKd,?_⟩⟩;refine⟨_,results_none rfl _ _ _,rfl,?_⟩;exact(HV.out.below (by omega) (iP hD _)).f
end Go.Proofs.YtnakejhohdbfdaaGreatDoor
namespace Go.Proofs.YtnakejhohdbfdaaGreatDoor
open Go.RowKit jN Lay uS Go.Proofs.Tryz
theorem FQ {s:ByteArray}{Br:List Int}(hs:s.size=0)(h:Lay.jH (bnd s 0) s.size Br Br.length=true):Br=[]:=by
 cases Br with
 | nil=>rfl
 | cons x l =>
   have:=sS h 0 (by simp);omega
theorem VK {s:ByteArray}(hs:s.size=0):C9 s []=[0,0]:=by simp[C9,hs]
theorem Ss (s:ByteArray)(b:Int)(vW vB:Value)(W Br:List Int)(w:World)(hs:s.size=0)(hb:b=0\/b=1\/b=2)(hF:Floor w)(hW:mA w vW W)(hB:mT w vB Br)(hck:tu s 0 (iY s 0) b W Br=0) :
 Calls prog 163 #[.agg #[.string s,.int .i64 b,vW,vB]] w fun e w'=>∃P v0 v1 v2 vL hs,e=.returned (.pointer (some ⟨P,0,none⟩))/\LP w' w.heap.size P [0] [] [] (1 - 2 * gS [] b) [NI] v0 v1 v2 vL hs/\Fr [] w w':=by
 have hend:gJ.Ends s 0:=⟨hs.symm,fun j hj=>absurd hj (bE _)⟩;obtain⟨tJ,hw,hbr⟩:=r5 hend (by omega) hb hck;have J9:=FQ hs hbr;subst J9;have hW0:=hW;obtain⟨aW,cW,rfl,hW2⟩:=hW;obtain⟨aB,cB,rfl,_⟩:=id hB;rw[tJ]at hW0 ⊢;obtain⟨bs,hbs⟩:∃bs,bs=gS [] b:=⟨_,rfl⟩;have AN:=hid (show bs=0\/bs=1 by rw[hbs];exact mK hb);obtain⟨wb,hwb⟩:∃wb,wb=w.alloc (.cells #[.string s,.int .i64 b,.slice aW 0 cW,.slice aB 0 cB] 35):=⟨_,rfl⟩;have nD:=hid (show Fr [] w wb by rw[hwb];exact(Fr.refl [] w).alloc _);have qy:=hid (show wb.heap[w.heap.size]?=some (.cells #[.string s,.int .i64 b,.slice aW 0 cW,.slice aB 0 cB] 35 (0,0)) by rw[hwb];exact fU w _);have Ag:=hid (fun(X:World) (hf:Fr [] w X)=>hF.fr hf);have Hx:=hid (fun X:World=>mE.ym s X (by omega));have Y0:=hid (fun(X:World)=>of_nil s b X hs hb);have YI:=hid hB;have HE:=hid hend;have GQ:=hid hs;rw[<-hbs]at Y0;have hs4:s.size<=400:=by omega
 clear hW0 hW2 hend hck hbr hw tJ hB hF hb hs;rw[<-hbs];clear hbs;dsimp only[List.length_nil]at YI ⊢;go_enter func163,ntmps163;go_wp2_with fail;rw[<-hwb];have Cn:wb.heap.size=w.heap.size+1:=by rw[hwb];simp
 clear hwb;have iy:=nD;have kT:=qy;refine(Hx.out wb).mono ?_;rintro e w2 ⟨n',v,hn',rfl,own,hb2,hz⟩;obtain rfl:=gJ.jT HE.out hn';obtain rfl:=hz rfl;have f_:=hid (iy.out.trans (Fr.of_below (S:=[]) hb2));have iG:=hid (fO kT.out (Fr.of_below (S:=[]) hb2) af);have k0:=fN iG.out (i:=0) (v:=.string s) rfl;have k3:=fN iG.out (i:=3) (v:=.slice aB 0 cB) rfl;have hl2:w.heap.size<w2.heap.size:=h_ iG.out;have J7:=hid (yH s [] aB cB w2 (YI.out.fr f_.out) (by simp));dsimp only[List.length_nil]at J7;clear own hb2 hn' Hx hz;go_wp2_with fail;refine J7.out.mono ?_;rintro e w3 ⟨ge,ce,rfl,hce,hge,Y1,hf3⟩;rw[VK GQ.out]at Y1;have iO:=hid (f_.out.trans hf3);have k9:=hid (fO iG.out hf3 af);have X1:=hid Y1;have Sg:=hid (Y0.out w3);have k0:=fN k9.out (i:=0) (v:=.string s) rfl;have k1:=fN k9.out (i:=1) (v:=.int .i64 b) rfl;clear Y1 hf3 J7 k3 Y0;go_wp2_with fail;refine Sg.out.mono ?_;rintro e w4 ⟨gL,rfl,jl⟩;have gP:=hid (iO.out.trans jl);have jD:=hid (fO k9.out jl af);have KO:=hid (X1.out.fr jl af);have Sh:=hid (Sr gL 0 ge (0+2) ce bs w4);clear k0 k1 Sg jl;go_wp2_with fail;refine Sh.out.mono ?_;rintro e w5 ⟨rfl,jC⟩;have jP:=hid (gP.out.trans jC);have qZ:=hid (fO jD.out jC af);have m8:=hid (KO.out.fr jC af);have Si:=hid (NK s b aW aB 0 cW 0 cB gL 0 w5 GQ.out (Ag.out w5 jP.out).t9);have k0:=fN qZ.out (i:=0) (v:=.string s) rfl;have k1:=fN qZ.out (i:=1) (v:=.int .i64 b) rfl;have k2:=fN qZ.out (i:=2) (v:=.slice aW 0 cW) rfl;have k3:=fN qZ.out (i:=3) (v:=.slice aB 0 cB) rfl;clear jC Sh;go_wp2_with fail;refine Si.out.mono ?_;rintro e w6 ⟨gB,NG,rfl,hrB,hgB,jo⟩;have s_:=hid (jP.out.trans jo);have HE6:=hid (m8.out.fr jo af);have wV:=hid hrB;clear hrB jo Si k0 k1 k2 k3;obtain⟨w7,hw7⟩:∃w7,w7=w6.alloc (.cells #[.slice (some ⟨gB,0,none⟩) 1 NG,.slice none 0 0,.slice none 0 0] 163):=⟨_,rfl⟩;have xx:=hid (show Fr [] w6 w7 by rw[hw7];exact(Fr.refl [] w6).alloc _);have RZ:=hid (show w7.heap[w6.heap.size]?=some (.cells #[.slice (some ⟨gB,0,none⟩) 1 NG,.slice none 0 0,.slice none 0 0] 163 (0,0)) by rw[hw7];exact fU w6 _);have Y3:=hid (fun(X:World) (hf:Fr [] w7 X)=>NJ gB NG ge ce X hce ((wV.out.fr xx.out af).fr hf af) ((HE6.out.fr xx.out af).fr hf af));have q0:=fN RZ.out (i:=0) (v:=.slice (some ⟨gB,0,none⟩) 1 NG) rfl;have q1:=fN RZ.out (i:=1) (v:=.slice none 0 0) rfl;have q2:=fN RZ.out (i:=2) (v:=.slice none 0 0) rfl;have Xn:(0:Int)<=bs/\bs<=1:=by have:=AN.out;omega
 obtain⟨hb0,hb1⟩:=Xn;have hw1:IntKind.i64.wrap (2 * bs)=2 * bs:=by rw[eT];omega
 have hw2:IntKind.i64.wrap (1 - 2 * bs)=1 - 2 * bs:=by rw[eT];omega
 go_wp2_with fail;rw[<-hw7];clear hw7;go_region_with (first | (go_at_call 208;refine(Y3.out _ ?_).mono ?_;exact iD _ _ _ rfl rfl rfl rfl;rintro e w8 ⟨vL,hs8,rfl,J8,hl8,nE⟩;obtain⟨aL,cL,rfl⟩:=gA J8;have Dc:Fr [] w7 w8:=⟨nE.os,nE.tape,nE.output,nE.size,nE.block⟩;have q8:=hid Dc;have W_:=hid J8;have HL8:=hid hl8;have r0:=Dc.cell q0 af;have r1:=Dc.cell q1 af;have r2:=Dc.cell q2 af;clear nE Dc J8 hl8))
 all_goals (
  have DM:=hid (show Fr [] w7 (w8.alloc (.cells #[.slice (some ⟨gB,0,none⟩) 1 NG,.slice none 0 0,.slice none 0 0,.slice aL 1 cL,.int .i64 (1 - 2 * bs)] 166))from q8.out.alloc _)
  have DY:=hid (s_.out.trans (xx.out.trans DM.out))
  have Oq:=hid (show LP (w8.alloc (.cells #[.slice (some ⟨gB,0,none⟩) 1 NG,.slice none 0 0,.slice none 0 0,.slice aL 1 cL,.int .i64 (1 - 2 * bs)] 166)) w.heap.size w8.heap.size [0] [] [] (1 - 2 * bs) [NI] _ _ _ _ hs8 from by
   have z1:=jP.out.size
   have z4:=s_.out.size
   have z2:=xx.out.size
   have z3:=q8.out.size
   have hz:w.heap.size<=w7.heap.size:=by omega
   refine⟨fU w8 _,by omega,FP rfl (by omega) ((wV.out.fr xx.out af).fr DM.out af),⟨none,0,rfl,.inl rfl⟩,⟨none,0,rfl,.inl rfl⟩,gY (W_.out.alloc _) hz,w8.heap.size,by simp,?_⟩
   intro j l hj
   obtain⟨vO,vX,a1,a2,a3,a4,a5,a6,a7,a8⟩:=HL8.out j l hj
   exact⟨vO,vX,a1,a2,a3,a4,gY (a5.alloc _) hz,gY (a6.alloc _) hz,a7,a8⟩)
  go_wp2
  go_ret
  exact⟨_,_,_,_,_,_,rfl,Oq.out,DY.out⟩)
theorem Hy (s:ByteArray)(b:Int)(vW vB:Value)(W Br:List Int)(w:World)(hs:s.size=0)(hb:b=0\/b=1\/b=2)(hF:Floor w)(hW:mA w vW W)(hB:mT w vB Br)(hck:tu s 0 (iY s 0) b W Br=0) :
 Calls prog 94 #[.agg #[.string s,.int .i64 b,vW,vB]] w fun e w'=>∃P v0 v1 v2 vL hs,e=.returned (.tuple #[.pointer (some ⟨P,0,none⟩),.nilIface])/\LP w' w.heap.size P [0] [] [] (1 - 2 * gS [] b) [NI] v0 v1 v2 vL hs/\Fr [] w w':=by
 have hend:gJ.Ends s 0:=⟨hs.symm,fun j hj=>absurd hj (bE _)⟩;have J9:=FQ hs (r5 hend (by omega) hb hck).2.2;exact Lb s b vW vB W Br 0 w (by omega) hb hF hend hW hB (by rw[J9];simp) hck _ _ _ _ _ (fun Y hf=>Ss s b vW vB W Br Y hs hb (hF.fr hf) (hW.fr hf) (hB.fr hf) hck)
theorem Hz (s:ByteArray)(b:Int)(vW:Value)(aB:Option Addr)(cB:Nat)(w:World)(hs:s.size=0)(hb:b=0\/b=1\/b=2)(hT:Lib.Utf8Tabs 1 2 w) :
 Calls prog 54 #[.agg #[.string s,.int .i64 b,vW,.slice aB 0 cB]] w fun e w'=>∃lb WB vC vL hs,e=.returned (.pointer (some ⟨lb,0,none⟩))/\LD WB w' w'.heap.size lb s (gS [] b) vC vL [] [⟨0,0,[],[0]⟩] hs/\w.heap.size<=lb/\Fr [] w w':=by
 obtain⟨wb,hwb⟩:∃wb,wb=w.alloc (.cells #[.string s,.int .i64 b,vW,.slice aB 0 cB] 35):=⟨_,rfl⟩;have nD:=hid (show Fr [] w wb by rw[hwb];exact(Fr.refl [] w).alloc _);have qy:=hid (show wb.heap[w.heap.size]?=some (.cells #[.string s,.int .i64 b,vW,.slice aB 0 cB] 35 (0,0)) by rw[hwb];exact fU w _);have HTb:=hid (fun(X:World) (hf:Fr [] w X)=>mE.oB hT (hf.below (ak _) (fun _ h=>absurd h af)));have YR:=hid (DV s b wb hs (HTb.out wb nD.out) hb);have L7:=hid (show gJ.Ends s 0 from⟨hs.symm,fun j hj=>absurd hj (bE _)⟩);obtain⟨bs,RV⟩:∃bs,bs=gS [] b:=⟨_,rfl⟩;rw[<-RV]at YR ⊢;have GQ:=hid hs;have hs1:s.size<=400:=by omega
 clear hT RV hs;go_enter func54,ntmps54;go_wp2_with fail;rw[<-hwb];clear hwb;refine YR.out.mono ?_;rintro e w1 ⟨p,bL,rfl,hc0,hc3,hc6,hf1⟩;have iy:=hid (nD.out.trans hf1);have zh:=hid (fO qy.out hf1 af);have k0:=fN zh.out (i:=0) rfl;have hsb:=h_ zh.out;have ZV:p<w1.heap.size:=eS _ _ hc0;have Ol:=hid hc0;clear hc0 hc3 hf1 YR;go_wp2_with fail;go_region;obtain⟨w2,hw2⟩:∃w2,w2=(w1.alloc (.cells #[.string s,.int .i64 bs,.slice none 0 0,.slice none 0 0] 46)).drew:=⟨_,rfl⟩;have f_:=hid (show Fr [] w1 w2 by rw[hw2];exact Om _ _);have Cz:=hid (show w2.heap[w1.heap.size]?=some (.cells #[.string s,.int .i64 bs,.slice none 0 0,.slice none 0 0] 46 (0,0)) by rw[hw2];exact fU w1 _);rw[<-hw2];clear hw2;have Fx:=hid (fO zh.out f_.out af);clear k0 hc6;have k0:=fN Fx.out (i:=0) rfl;have JY:=hid (mE.mI s w2 (by omega) (HTb.out w2 (iy.out.trans f_.out)) 0 L7.out);go_wp2_with fail;refine JY.out.mono ?_;rintro e WB ⟨v5,rfl,qx,hb5⟩;have iO:=hid (f_.out.trans (Fr.of_below (S:=[]) hb5));have RX:=hid (fO Cz.out (Fr.of_below (S:=[]) hb5) af);have wX:=hid (fO zh.out iO.out af);have Hv:(bnd s 0).length=1:=by rw[bnd,au (by have:=GQ.out;omega)];rfl
 rw[Hv]at qx;obtain⟨gB,cB5,hv5⟩:=fR (by omega) qx;subst hv5;have hlb:w1.heap.size<WB.heap.size:=h_ RX.out
 have HL0:=hid (show LD WB WB WB.heap.size w1.heap.size s bs (.slice none 0 0) (.slice none 0 0) [] [] []from
  ⟨Fr.refl _ _,hlb,RX.out,eY _ _ _ _,eY _ _ _ _,fun j l hj=>by simp at hj⟩)
 clear qx hb5 JY k0 Hv;have k0:=fN wX.out (i:=0) rfl;have k2:=fN wX.out (i:=2) rfl;have k3:=fN wX.out (i:=3) rfl;have sZ:=hid (QB WB WB w1.heap.size p gB cB5 vW s bs WB.heap.size HL0.out (ak _) (iO.out.cell Ol.out af));have hsz0:(s.size:Int)=0:=by have:=GQ.out;omega
 go_wp2_with fail;go_loopw [6,7] (fun ff kk wr=>(kk=.int .i64 0/\ff=.int .i64 0/\wr=WB)\/(kk=.int .i64 1/\ff=.int .i64 0/\∃vC vL hs',Hid (LD WB wr wr.heap.size w1.heap.size s bs vC vL [] [⟨0,0,[],[0]⟩] hs'))) (fun _ kk _=>1 - (intOf kk).toNat)
 case atStart=>exact .inl ⟨rfl,rfl,rfl⟩
 case round =>
  rcases hrel with⟨rfl,rfl,rfl⟩ | ⟨rfl,rfl,vC,vL,hs',Tr⟩
  ·go_wp2_with fail
   refine sZ.out.mono ?_;rintro e w9 ⟨rfl,Mc,T3,hs9,W9⟩;have Xy:=hid W9;clear W9 sZ;go_wp2;go_roundw
   case rel=>exact .inr ⟨rfl,rfl,Mc,T3,hs9,Xy⟩
   case measure=>simp[intOf]
  ·have j3:=fN (fO wX.out Tr.out.fr (fun h=>by have:=aj.1 h;omega)) (i:=3) rfl
   go_wp2;go_ret;refine⟨w1.heap.size,WB,vC,vL,hs',rfl,Tr.out,iy.out.size,?_⟩;exact(iy.out.trans iO.out).Hu Tr.out.fr iy.out.size
theorem St {s:ByteArray}{n k:Nat}(hk:k<cn s n):fX (jw s n) k<n:=by
 have:=qT (kR s n) hk (by have:=(jk s n).2.1;unfold cn;omega);rw[kL]at this;exact this
theorem Su {s:ByteArray}{n:Nat}(h:gJ.Ends s n)(hn:0<n){bs:Int}(hb:bs=0\/bs=1)(W Br:List Int):NF (bnd s n) (IF s n bs Br) (wl s W n) (cn s n)=rO (gJ.pos s) (fX (jw s n)) (qD s n bs Br) W (cn s n):=by
 rw[NF,rO];refine List.map_congr_left (fun k hk=>?_);have hk:=bS.1 hk;have hl:=(jk s n).2.1;have hk1:k<(jw s n).length/\k+1<(jw s n).length:=by unfold cn at hk;omega
 have hkb:k<(iU s n).length:=by rw[<-oN hn];exact hk
 rw[Ma,mJ h hk1.1,mJ h hk1.2,Wu hn W hk,IF,JZ hkb,<-Cb hn hkb,yG (by rw[mX _ _ _ hb,kG];exact St hk)];rfl
theorem NM {s:ByteArray}{n:Nat}{Br:List Int}(E:qN s n Br)(hc:cn s n<=400)(bs:Int)(W:List Int):∀l∈AR s n bs W Br (Br.length+1),l.o.length<=1000/\l.x.length<=1001:=fun l hl=>by
 obtain⟨j,hj,rfl⟩:=dP.1 hl;have hj:=bS.1 hj;have h1:=E.le (j+1) (by omega);have h2:jc s n Br (j+1) - jc s n Br j<=1000:=by unfold jc;omega
 unfold yf;dsimp only;rw[dm,oY,qU];omega
theorem EQ {s:ByteArray}{n:Nat}{K:List Int}{b:Int}{W Br:List Int}(hc:tu s n K b W Br=0):s.size<=400/\(b=0\/b=1\/b=2):=by
 unfold tu at hc;by_cases h1:400<s.size
 ·rw[ay h1]at hc;cases hc
 ·rw[au h1]at hc
  by_cases h2:b<0\/2<b
  ·rw[ay h2]at hc;cases hc
  ·exact⟨by omega,by omega⟩
theorem VL (s:ByteArray)(b:Int)(vW vB:Value)(W Br:List Int)(n:Nat)(w:World)(hF:Floor w)(hend:gJ.Ends s n)(hW:mA w vW W)(tJ:W.length<=5000)(hB:mA w vB Br)(hBl:Br.length<=5000) :
 Calls prog 162 #[.agg #[.string s,.int .i64 b,vW,vB]] w fun e w'=>∃v,e=.returned v/\((v=.nilIface/\tu s n (iY s n) b W Br=0)\/(tu s n (iY s n) b W Br≠0/\yz w' v (tu s n (iY s n) b W Br)))/\Fr [] w w':=by
 by_cases h1:400<s.size
 ·have hc:tu s n (iY s n) b W Br=1:=by rw[tu,ay h1]
  rw[hc];refine(KV s b 1 vW vB w (fun w'=>Jw s b w' h1)).mono ?_;rintro e w' ⟨v,rfl,h,hf⟩;exact⟨v,rfl,.inr ⟨by decide,h⟩,hf⟩
 ·by_cases h2:b<0\/2<b
  ·have hc:tu s n (iY s n) b W Br=2:=by rw[tu,au h1,ay h2]
   rw[hc];refine(KV s b 2 vW vB w (fun w'=>Jx s b w' (by omega) (by omega) (by omega) (by omega))).mono ?_;rintro e w' ⟨v,rfl,h,hf⟩;exact⟨v,rfl,.inr ⟨by decide,h⟩,hf⟩
  ·exact G0 s b vW vB W Br n w (by omega) (by omega) hF hend hW tJ hB hBl
theorem Lc (s:ByteArray)(b:Int)(vW vB:Value)(W Br:List Int)(n:Nat)(w:World)(hT:Lib.Utf8Tabs 1 2 w)(hend:gJ.Ends s n)(hW:mA w vW W)(tJ:W.length<=5000)(hB:mA w vB Br)(hBl:Br.length<=5000) :
 Calls prog 53 #[.agg #[.string s,.int .i64 b,vW,vB]] w fun e w'=>e=.returned (.int .i64 (tu s n (iY s n) b W Br))/\Fr [] w w':=by
 by_cases h1:400<s.size
 ·rw[show tu s n (iY s n) b W Br=1 by rw[tu,ay h1]]
  exact Ui s b vW vB w h1
 ·by_cases h2:b<0\/2<b
  ·rw[show tu s n (iY s n) b W Br=2 by rw[tu,au h1,ay h2]]
   exact Uj s b vW vB w (by omega) h2
  ·exact Uk s b vW vB W Br n w (by omega) (by omega) hT hend hW tJ hB hBl
structure Twin (s:ByteArray)(b:Int)(W Br:List Int)(Bd V X:List Int)(r bs:Int)(Cs:List (Int × Int × Int × Int))(Ls:List Ln):Prop where
 vx:X.length=V.length
 bd:Bd.length=V.length+1
 vl:V.length<=400
 cs:NF Bd V X V.length=Cs
 l0:0<Ls.length
 l1:Ls.length<=400
 ll:∀l∈Ls,l.o.length<=1000/\l.x.length<=1001
 p:∀w vW vB,Floor w->mA w vW W->mT w vB Br->Calls prog 94 #[.agg #[.string s,.int .i64 b,vW,vB]] w fun e w'=>∃P v0 v1 v2 vL hs,e=.returned (.tuple #[.pointer (some ⟨P,0,none⟩),.nilIface])/\LP w' w.heap.size P Bd V X r Ls v0 v1 v2 vL hs/\Fr [] w w'
 d:∀w vW vB,Floor w->mA w vW W->mA w vB Br->Calls prog 54 #[.agg #[.string s,.int .i64 b,vW,vB]] w fun e w'=>∃lb WB vC vL hs,e=.returned (.pointer (some ⟨lb,0,none⟩))/\LD WB w' w'.heap.size lb s bs vC vL Cs Ls hs/\w.heap.size<=lb/\Fr [] w w'
def near (x hi:Int):Int:=if x<0 then 0 else if hi<x then hi else x
theorem Be {x hi:Int}(h:0<=hi):0<=near x hi/\near x hi<=hi:=by unfold near;split <;> (try split) <;> omega
def lY (Bd V:List Int)(c:Nat)(right:Bool):Int × Bool:=if right=(nth V c % 2 == 1)then(nth Bd c,false)else(nth Bd (c+1),true)
def ji (Ls:List Ln)(i:Nat):Ln:=Ls[i]?.getD ⟨0,0,[],[]⟩
def iM (Bd V:List Int)(Ls:List Ln)(line gap:Int):Int × Bool :=
 let o:=(ji Ls (near line (Ls.length - 1)).toNat).o
 let k:=(near gap o.length).toNat
 if o.length=0 then(0,false)else if k=0 then lY Bd V (fX o 0) false else lY Bd V (fX o (k - 1)) true
def iR (X:List Int)(x:Int):Nat->Nat
 | 0=>0
 | k+1=>if(nth X k - x).natAbs<(nth X (iR X x k) - x).natAbs then k else iR X x k
theorem r6 (X:List Int)(x:Int):∀k,0<k->iR X x k<k
 | 0,h=>by omega
 | k+1,_=>by
   rw[iR];split
   ·omega
   ·rcases aS k with h | h
    ·subst h;exact Nat.one_pos
    ·have:=r6 X x k h;omega
theorem Aw {X:List Int}{x hi:Int}(h:∀k,k<X.length->0<=nth X k/\nth X k<=hi):∀k,k<=X.length->iR X (near x hi) k=iR X x k
 | 0,_=>rfl
 | k+1,hk=>by
   have ih:=Aw (x:=x) h k (by omega);rw[iR,iR,ih];have h1:=h k (by omega);have h2:0<=nth X (iR X x k)/\nth X (iR X x k)<=hi:=by
    rcases aS k with h0 | h0
    ·subst h0;exact h 0 (by omega)
    ·exact h _ (by have:=r6 X x k h0;omega)
   have e:((nth X k - near x hi).natAbs<(nth X (iR X x k) - near x hi).natAbs) ↔ ((nth X k - x).natAbs<(nth X (iR X x k) - x).natAbs):=by
    unfold near;split
    ·omega
    ·split <;> omega
   by_cases hc:(nth X k - x).natAbs<(nth X (iR X x k) - x).natAbs
   ·rw[ay hc,ay (e.2 hc)]
   ·rw[au hc,au (fun hh=>hc (e.1 hh))]
def qE (Bd V:List Int)(Ls:List Ln)(line x:Int):Int × Bool :=
 let X:=(ji Ls (near line (Ls.length - 1)).toNat).x
 iM Bd V Ls (near line (Ls.length - 1)) (iR X x X.length:Nat)
structure xy (Bd V:List Int)(Ls:List Ln):Prop where
 vb:∀i,0<=nth V i/\nth V i<=1000
 ob:∀l∈Ls,∀k∈l.o,k<V.length
 xl:∀l∈Ls,l.x.length=l.o.length+1
 xb:∀l∈Ls,∀k,k<l.x.length->0<=nth l.x k/\nth l.x k<=nth l.x (l.x.length - 1)/\nth l.x k<=1000000000000000
theorem zH {f:Nat->Int}{o:List Nat}{M:Int}(h:∀j,0<=f j/\f j<=M):∀k d,o_ f o k<=o_ f o (k+d)/\o_ f o (k+d)<=o_ f o k+d * M
 | k,0=>by simp
 | k,d+1=>by
   have ih:=zH (o:=o) h k d;have hh:=h (fX o (k+d));rw[show k+(d+1)=(k+d)+1 from rfl,o_];have e:((d+1:Nat):Int) * M=(d:Int) * M+M:=by rw[dL,Int.add_mul];simp
   rw[e];omega
theorem kE {Ls:List Ln}{i:Nat}(h:i<Ls.length):ji Ls i∈Ls:=by
 rw[ji,az h];exact aT _
theorem Y4 {s:ByteArray}{n:Nat}(k:Nat):fX (jw s n) k<=n:=by
 by_cases hk:k<cn s n
 ·exact bZ (St hk)
 ·have hl:=(jk s n).2.1
  by_cases hk2:k=cn s n
  ·rw[hk2,kL];exact ak _
  ·rw[fX,bq (by unfold cn at hk hk2;omega)];exact aH _
theorem Sv {s:ByteArray}{n:Nat}(hn:0<n)(DC:n<=400){bs:Int}(hb:bs=0\/bs=1){W Br:List Int}(hW:∀i,0<=nth W i/\nth W i<=1073741824)(E:qN s n Br)(hc:cn s n<=400):xy (bnd s n) (IF s n bs Br) (AR s n bs W Br (Br.length+1)):=by
 have hvl:(IF s n bs Br).length=cn s n:=by rw[IF,vw,<-oN hn]
 have Mf:∀k,0<=wid W (fX (jw s n) k) (fX (jw s n) (k+1))/\wid W (fX (jw s n) k) (fX (jw s n) (k+1))<=429496729600:=fun k=>by
  have h1:=pS W 1073741824 hW (fX (jw s n) k) (fX (jw s n) (k+1) - fX (jw s n) k);have h2:=Y4 (s:=s) (n:=n) (k+1);unfold wid;omega
 have hl:∀l∈AR s n bs W Br (Br.length+1),∃a b,a<=b/\b<=cn s n/\l=yf (gJ.pos s) (fX (jw s n)) (qD s n bs Br) W a b:=fun l hl=>by
  obtain⟨j,hj,rfl⟩:=dP.1 hl;have hj:=bS.1 hj;exact⟨_,_,bZ (E.mono j (j+1) (by omega) (by omega)),E.le (j+1) (by omega),rfl⟩
 refine⟨R_ (fun i=>?_),fun l hm k hk=>?_,fun l hm=>?_,fun l hm k hk=>?_⟩
 ·by_cases hi:i<n
  ·rw[yG (by rw[mX _ _ _ hb,kG];exact hi)]
   have:=zk (Rl s n) (Kl s n) bs hb (Iw (jw s n) (bnd s n) Br) i;omega
  ·rw[rZ (by rw[lH,mX _ _ _ hb,kG];omega)];decide
 ·obtain⟨a,b,hab,hbc,rfl⟩:=hl l hm
  obtain⟨t,ht,rfl⟩:=dP.1 (show k∈(mG _ (b - a)).map _ from hk);have:=xS _ _ t ht;rw[hvl];omega
 ·obtain⟨a,b,hab,hbc,rfl⟩:=hl l hm
  unfold yf;dsimp only;rw[qU,dm,oY]
 ·obtain⟨a,b,hab,hbc,rfl⟩:=hl l hm
  unfold yf at hk ⊢;dsimp only at hk ⊢;rw[qU]at hk ⊢;rw[Es _ _ (by omega),Es _ _ (by omega)];have m1:=zH (f:=fun k=>wid W (fX (jw s n) k) (fX (jw s n) (k+1))) (o:=(mG (fun t=>qD s n bs Br (fX (jw s n) (a+t))) (b - a)).map (fun t=>t+a)) Mf 0 k;have m2:=zH (f:=fun k=>wid W (fX (jw s n) k) (fX (jw s n) (k+1))) (o:=(mG (fun t=>qD s n bs Br (fX (jw s n) (a+t))) (b - a)).map (fun t=>t+a)) Mf k (b - a - k);rw[c_]at m1;rw[show k+(b - a - k)=b - a+1 - 1 by omega]at m2;have e0:o_ (fun k=>wid W (fX (jw s n) k) (fX (jw s n) (k+1))) ((mG (fun t=>qD s n bs Br (fX (jw s n) (a+t))) (b - a)).map (fun t=>t+a)) 0=0:=rfl;rw[e0]at m1;refine⟨m1.1,m2.1,Int.le_trans m1.2 ?_⟩;omega
theorem H_:xy [0] [] [NI]:=by
 refine⟨fun i=>?_,fun l hl k hk=>?_,fun l hl=>?_,fun l hl k hk=>?_⟩
 ·rw[rZ (by simp)];decide
 ·rw[aj.1 hl]at hk;cases hk
 ·rw[aj.1 hl];rfl
 ·rw[aj.1 hl]at hk ⊢
  obtain rfl:k=0:=by simp[NI]at hk;exact hk
  decide
theorem Ld (x hi:Int)(h:0<=hi):min (max x 0) hi=near x hi:=by unfold near;split <;> (try split) <;> omega
theorem zI (x hi:Int)(w:World)(h:0<=hi):Calls prog 107 #[.int .i64 x,.int .i64 hi] w fun e w'=>e=.returned (.int .i64 (near x hi))/\w'=w:=by
 rw[<-Ld x hi h];go_enter func107,ntmps107;go_wp2;go_ret;exact⟨rfl,rfl⟩
theorem ER (x hi:Int)(w:World):Calls prog 62 #[.int .i64 x,.int .i64 hi] w fun e w'=>e=.returned (.int .i64 (near x hi))/\w'=w:=by
 obtain⟨R,hR⟩:∃R,R=near x hi:=⟨_,rfl⟩;rw[<-hR];have HR:=hid hR;clear hR;by_cases h1:x<0
 ·have HE:=hid (show R=0 by rw[HR.out,near,ay h1])
  go_enter func62,ntmps62;go_wp2;go_ret;exact⟨by simp[HE.out],rfl⟩
 ·have hd1:decide (x<0)=false:=by simp;omega
  by_cases h2:hi<x
  ·have HE:=hid (show R=hi by rw[HR.out,near,au h1,ay h2])
   go_enter func62,ntmps62;go_wp2;go_ret;exact⟨by simp[HE.out],rfl⟩
  ·have hd2:decide (hi<x)=false:=by simp;omega
   have HE:=hid (show R=x by rw[HR.out,near,au h1,au h2]);go_enter func62,ntmps62;go_wp2;go_ret;exact⟨by simp[HE.out],rfl⟩
theorem zJ (a:Option Addr)(K c:Nat)(x:Int)(w:World)(h0:0<K)(hK:K<=100000):Calls prog 106 #[.slice a K c,.int .i64 x] w fun e w'=>e=.returned (.int .i64 (near x ((K:Int) - 1)))/\w'=w:=by
 have HC:=hid (fun X:World=>zI x ((K:Int) - 1) X (by omega));have hw1:IntKind.i64.wrap ((K:Int) - 1)=(K:Int) - 1:=by rw[eT];omega
 generalize near x ((K:Int) - 1)=y at *;go_enter func106,ntmps106;go_wp2_with (go_at_call 107;refine(HC.out _).mono ?_;rintro e w' ⟨rfl,rfl⟩);go_ret;exact⟨rfl,rfl⟩
theorem Sw (a b:Int)(w:World)(ha:-1000000000000000000<=a/\a<=1000000000000000000)(hb:-1000000000000000000<=b/\b<=1000000000000000000):Calls prog 169 #[.int .i64 a,.int .i64 b] w fun e w'=>e=.returned (.int .i64 ((a - b).natAbs:Nat))/\w'=w:=by
 have HE:=hid (show max (a - b) (b - a)=((a - b).natAbs:Nat) by omega);have hw1:IntKind.i64.wrap (a - b)=a - b:=by rw[eT];omega
 have hw2:IntKind.i64.wrap (b - a)=b - a:=by rw[eT];omega
 rw[<-HE.out];go_enter func169,ntmps169;go_wp2;go_ret;exact⟨rfl,rfl⟩
theorem Ia (X:List Int)(x hi:Int)(g m c:Nat)(w:World)(hm:m=X.length)(hm0:0<m)(hm1:m<=100000)(hr:rowAt w g m X)(hX:∀k,k<X.length->0<=nth X k/\nth X k<=hi)(hl:nth X (m - 1)=hi)(hhi:hi<=1000000000000000) :
 Calls prog 109 #[.slice (some ⟨g,0,none⟩) m c,.int .i64 x] w fun e w'=>e=.returned (.int .i64 (iR X x m:Nat))/\Fr [] w w':=by
 have hhi0:0<=hi:=by have:=hX (m - 1) (by omega);omega
 have HBE:=hid (show iR X (near x hi) m=iR X x m by rw[hm];exact Aw hX _ (ak _));have hni:=Be (x:=x) hhi0;have yg:=hid (Ld x hi hhi0);have c0:=hr (m - 1) (by omega);rw[hl]at c0;have HR:=hid hr;have HXB:=hid (show ∀k,k<m->0<=nth X k/\nth X k<=hi by rw[hm];exact hX);rw[<-HBE.out];have hw1:IntKind.i64.wrap ((m:Int) - 1)=((m - 1:Nat):Int):=by rw[eT];omega
 have hlt1:((m - 1:Nat):Int)<(m:Int):=by omega
 generalize hx':near x hi=x' at *;obtain⟨m1,acG⟩:∃m1,m1=m - 1:=⟨_,rfl⟩;rw[<-acG]at c0 hw1 hlt1;clear hX hr hm hl hx' acG;go_enter func109,ntmps109;go_wp2_with fail;rw[yg.out];go_loopw [5,19] (fun vb vk wr=>∃k:Nat,vk=.int .i64 k/\k<=m/\vb=.int .i64 (iR X x' k:Nat)/\Hid (∃q,wr=w.drewN q)) (fun _ vk _=>m - (intOf vk).toNat)
 case atStart=>exact⟨0,rfl,aH _,rfl,hid ⟨0,rfl⟩⟩
 case round =>
  obtain⟨k,rfl,hk,rfl,HQ⟩:=hrel;have HF:=hid (show Fr [] w wr by obtain⟨q,h⟩:=HQ.out;rw[h];exact jr w q);by_cases hlt:k<m
  ·have sX:(k:Int)<(m:Int):=by omega
   have qM:=hid (show iR X x' k<m by
    rcases aS k with h | h
    ·subst h;exact hm0
    ·have:=r6 X x' k h;omega)
   have HST:=hid (show iR X x' (k+1)=if(nth X k - x').natAbs<(nth X (iR X x' k) - x').natAbs then k else iR X x' k from rfl);have c1:=HF.out.cell (HR.out k hlt) af;have c2:=HF.out.cell (HR.out _ qM.out) af;have b1:=HXB.out k hlt;have b2:=HXB.out _ qM.out;have hBI:((iR X x' k:Nat):Int)<(m:Int):=by have:=qM.out;omega
   obtain⟨B2,hB2⟩:∃B2,B2=iR X x' (k+1):=⟨_,rfl⟩;rw[<-hB2]at HST;have Iq:=hid hB2;clear hB2;generalize iR X x' k=B1 at *;generalize nth X k=y1 at *;generalize nth X B1=y2 at *;have HD:=hid (fun(a:Int) (Y:World) (h0:0<=a/\a<=hi)=>Sw a x' Y (by omega) (by omega));by_cases hc:(y1 - x').natAbs<(y2 - x').natAbs
   ·have hcI:(((y1 - x').natAbs:Nat):Int)<(((y2 - x').natAbs:Nat):Int):=by omega
    have HB2:=hid (show B2=k by rw[HST.out,ay hc]);have Sy:=hid (And.intro b1 b2);clear b1 b2 HST;go_wp2_with fail;go_quiet (first | (go_at_call 169;exact Calls.quiet_of_same (HD.out _ _ (by first | exact Sy.out.1 | exact Sy.out.2))));go_wp2;go_roundw
    case rel=>exact⟨k+1,by go_num,by omega,by rw[<-Iq.out,HB2.out],hid (by obtain⟨q,h⟩:=HQ.out;exact⟨q+nq,by rw[h,World.drewN_drewN]⟩)⟩
    case measure=>simp[intOf];omega
   ·have hcI:¬(((y1 - x').natAbs:Nat):Int)<(((y2 - x').natAbs:Nat):Int):=by omega
    have hcd:decide ((((y1 - x').natAbs:Nat):Int)<(((y2 - x').natAbs:Nat):Int))=false:=by simpa using hcI
    have HB2:=hid (show B2=B1 by rw[HST.out,au hc]);have Sy:=hid (And.intro b1 b2);clear b1 b2 HST;go_wp2_with fail;go_quiet (first | (go_at_call 169;exact Calls.quiet_of_same (HD.out _ _ (by first | exact Sy.out.1 | exact Sy.out.2))));go_wp2;go_roundw
    case rel=>exact⟨k+1,by go_num,by omega,by rw[<-Iq.out,HB2.out],hid (by obtain⟨q,h⟩:=HQ.out;exact⟨q+nq,by rw[h,World.drewN_drewN]⟩)⟩
    case measure=>simp[intOf];omega
  ·obtain rfl:k=m:=by omega
   have sX:¬(k:Int)<(k:Int):=by omega
   go_wp2;go_ret;exact⟨rfl,HF.out⟩
theorem Sz (Bd V:List Int)(gB cB nB gV nV cV c:Nat)(v2:Value)(right:Bool)(w:World)(hc:c<nV)(hn:nB=nV+1)(hB:rowAt w gB nB Bd)(hV:rowAt w gV nV V)(h0:0<=nth V c)(hn1:nV<=1000) :
 Calls prog 108 #[.agg #[.slice (some ⟨gB,0,none⟩) nB cB,.slice (some ⟨gV,0,none⟩) nV cV,v2],.int .i64 (c:Nat),.bool right] w fun e w'=>e=.returned (.agg #[.int .i64 (lY Bd V c right).1,.bool (lY Bd V c right).2])/\Fr [] w w':=by
 obtain⟨w2,hw2⟩:∃w2,w2=(w.alloc (.cells #[.slice (some ⟨gB,0,none⟩) nB cB,.slice (some ⟨gV,0,none⟩) nV cV,v2] 163)).alloc (.cells #[.int .i64 0,.bool false] 55):=⟨_,rfl⟩;have f_:=hid (show Fr [] w w2 by rw[hw2];exact((Fr.refl [] w).alloc _).alloc _);have kT:=hid (show w2.heap[w.heap.size]?=some (.cells #[.slice (some ⟨gB,0,none⟩) nB cB,.slice (some ⟨gV,0,none⟩) nV cV,v2] 163 (0,0)) by rw[hw2];exact fO (fU w _) ((Fr.refl [] _).alloc _) af)
 have iG:=hid (show w2.heap[w.heap.size+1]?=some (.cells #[.int .i64 0,.bool false] 55 (0,0)) by
  have h:=fU (w.alloc (.cells #[.slice (some ⟨gB,0,none⟩) nB cB,.slice (some ⟨gV,0,none⟩) nV cV,v2] 163)) (.cells #[.int .i64 0,.bool false] 55)
  rw[<-hw2]at h;simpa using h)
 have SA:=hid (Cm V gV nV cV c (.slice (some ⟨gB,0,none⟩) nB cB) v2 w2 hc (hV.fr f_.out af) h0);have HB:=hid hB;obtain⟨x,y,hxy⟩:∃x y,lY Bd V c right=(x,y):=⟨_,_,rfl⟩;have zK:=hid hxy;rw[hxy];have k0:=fN kT.out (i:=0) (v:=.slice (some ⟨gB,0,none⟩) nB cB) rfl;have k1:=fN kT.out (i:=1) (v:=.slice (some ⟨gV,0,none⟩) nV cV) rfl;have k2:=fN kT.out (i:=2) (v:=v2) rfl;have HN:=hid hn;have hb1:c<nB/\c+1<nB:=by omega
 clear hB hV hxy h0 hn;go_enter func108,ntmps108;go_wp2_with fail;rw[<-hw2];clear hw2;refine SA.out.mono ?_;rintro e w3 ⟨rfl,hf3⟩;have iO:=hid (f_.out.trans hf3);have AW:=hid (fO kT.out hf3 af);have C8:=hid (fO iG.out hf3 af);clear k0 k1 k2 hf3 SA;have k0:=fN AW.out (i:=0) (v:=.slice (some ⟨gB,0,none⟩) nB cB) rfl;have z0:=fN C8.out (i:=0) (v:=.int .i64 0) rfl;have z1:=fN C8.out (i:=1) (v:=.bool false) rfl;have f0:=fT C8.out 0;have f1:=fT C8.out 1;have c0:=iO.out.cell (HB.out c hb1.1) af;have c1:=iO.out.cell (HB.out (c+1) hb1.2) af;have hcI:(c:Int)<(nB:Int):=by omega
 have al9:(c:Int)+1<(nB:Int):=by omega
 have hS:right=(nth V c % 2 == 1)->x=nth Bd c/\y=false:=fun h=>by
  have e:=zK.out;rw[lY,ay h]at e;cases e;exact⟨rfl,rfl⟩
 have hS':¬right=(nth V c % 2 == 1)->x=nth Bd (c+1)/\y=true:=fun h=>by
  have e:=zK.out;rw[lY,au h]at e;cases e;exact⟨rfl,rfl⟩
 have qi:=hid (fun(x:Int) (y:Bool)=>(show((w3.setCell ⟨w.heap.size+1,0,none⟩ (.int .i64 x)).setCell ⟨w.heap.size+1,1,none⟩ (.bool y)).heap[w.heap.size+1]?=some (.cells #[.int .i64 x,.bool y] 55 (0,0))from fP (fP C8.out 0 _) 1 _));have DY:=hid (fun(x:Int) (y:Bool)=>(show Fr [] w ((w3.setCell ⟨w.heap.size+1,0,none⟩ (.int .i64 x)).setCell ⟨w.heap.size+1,1,none⟩ (.bool y))from iO.out.behind ((gH _ _ _ _).set (aj.2 rfl) _) (fun k hk=>by rw[aj.1 hk];omega)));generalize (nth V c % 2 == 1)=od at *;generalize nth Bd c=y0 at *;generalize nth Bd (c+1)=y1 at *;clear hb1;by_cases hr:right=od
 ·obtain⟨rfl,rfl⟩:=hS hr
  subst hr;clear hS hS' zK;go_wp2_with fail;refine eU (eW (t:=55) (fr:=(0,0)) rfl _ _ (w.heap.size+1) _ _ rfl (qi.out _ _) underlying55 rfl (by kernel_rfl)) rfl ?_;exact⟨rfl,DY.out _ _⟩
 ·obtain⟨rfl,rfl⟩:=hS' hr
  have hr2:(right == od)=false:=by simpa using hr
  clear hS hS' zK;go_wp2_with fail;refine eU (eW (t:=55) (fr:=(0,0)) rfl _ _ (w.heap.size+1) _ _ rfl (qi.out _ _) underlying55 rfl (by kernel_rfl)) rfl ?_;exact⟨rfl,DY.out _ _⟩
theorem r7 {x:Int}{m:Nat}:∃k:Nat,near x (m:Int)=(k:Int)/\k<=m:=by
 have h:=Be (x:=x) (hi:=(m:Int)) (by omega);exact⟨(near x m).toNat,by omega,by omega⟩
theorem mL {Ls:List Ln}{i:Nat}(h:i<Ls.length):Ls[i]?=some (ji Ls i):=by rw[ji,az h];rfl
theorem ET (B P:Nat)(Bd V X:List Int)(r:Int)(Ls:List Ln)(v0 v1 v2 vL:Value)(hs:List Value)(line gap:Int)(w:World)(h:LP w B P Bd V X r Ls v0 v1 v2 vL hs)(T:xy Bd V Ls)(hbd:Bd.length=V.length+1)(hv4:V.length<=400)(yu:0<Ls.length)(hK:Ls.length<=400)(hlo:∀l∈Ls,l.o.length<=1000) :
 Calls prog 61 #[.pointer (some ⟨P,0,none⟩),.agg #[.int .i64 line,.int .i64 gap]] w fun e w'=>e=.returned (.agg #[.int .i64 (iM Bd V Ls line gap).1,.bool (iM Bd V Ls line gap).2])/\Fr [] w w':=by
 obtain⟨i,hi,hiK⟩:=r7 (x:=line) (m:=Ls.length - 1);have hi':near line ((Ls.length:Int) - 1)=(i:Int):=by rw[<-hi];congr 1;omega
 have hil:i<Ls.length:=by omega
 obtain⟨k,hk,hkl⟩:=r7 (x:=gap) (m:=(ji Ls i).o.length)
 have yZ:=hid (show iM Bd V Ls line gap=if(ji Ls i).o.length=0 then(0,false)else if k=0 then lY Bd V (fX (ji Ls i).o 0) false else lY Bd V (fX (ji Ls i).o (k - 1)) true by
  unfold iM;dsimp only;rw[hi',cH,hk,cH])
 obtain⟨U,_,hn⟩:=h.n;obtain⟨vO,vX,_,_,a3,_,a5,_⟩:=hn i _ (mL hil);obtain⟨gL,cL,qw⟩:=fR yu h.l;subst qw;obtain⟨aO,cO,Dd⟩:=gA a5;subst Dd;have GV:=T.ob _ (kE hil);have hlo1:=hlo _ (kE hil);have Ib:=hid (fun Y:World=>zJ (some ⟨gL,0,none⟩) Ls.length cL line Y yu (by omega));have FR:=hid (fun Y:World=>zI gap (((ji Ls i).o.length:Nat):Int) Y (by omega));rw[hi']at Ib;rw[hk]at FR;have Iy:=hid T.vb;have VM:=hid a5;have Oq:=hid h;have qy:=hid GV;have c3:w.cell? ⟨gL,i * 4+2,none⟩=some (.slice aO (ji Ls i).o.length cO):=by rw[h.l.cellAt _ (by omega)];exact a3
 have p3:=fN h.o (i:=3) (v:=.slice (some ⟨gL,0,none⟩) Ls.length cL) rfl;have rW:=h_ h.o;have hgl:=eS _ _ c3;dsimp only at hgl;obtain⟨x,y,hxy⟩:∃x y,iM Bd V Ls line gap=(x,y):=⟨_,_,rfl⟩;rw[hxy]at yZ ⊢;obtain⟨o,ho⟩:∃o,o=(ji Ls i).o:=⟨_,rfl⟩;rw[<-ho]at yZ VM FR qy c3 hkl hlo1;obtain⟨lo,De⟩:∃lo,lo=o.length:=⟨_,rfl⟩;have Cz:=hid De;rw[<-De]at yZ VM FR c3 hkl hlo1;obtain⟨K,hK'⟩:∃K,K=Ls.length:=⟨_,rfl⟩;rw[<-hK']at Ib p3 yu hK hil;obtain⟨w2,hw2⟩:∃w2,w2=(w.alloc (.cells #[.int .i64 line,.int .i64 gap] 58)).alloc (.cells #[.int .i64 0,.bool false] 55):=⟨_,rfl⟩;have f_:=hid (show Fr [] w w2 by rw[hw2];exact((Fr.refl [] w).alloc _).alloc _);have kT:=hid (show w2.heap[w.heap.size]?=some (.cells #[.int .i64 line,.int .i64 gap] 58 (0,0)) by rw[hw2];exact fO (fU w _) ((Fr.refl [] _).alloc _) af)
 have iG:=hid (show w2.heap[w.heap.size+1]?=some (.cells #[.int .i64 0,.bool false] 55 (0,0)) by
  have h:=fU (w.alloc (.cells #[.int .i64 line,.int .i64 gap] 58)) (.cells #[.int .i64 0,.bool false] 55)
  rw[<-hw2]at h;simpa using h)
 have mO:=hid (f_.out.cell p3 af);have AK:=hid (f_.out.cell c3 af);have sY:(i:Int)<(K:Int):=by omega
 have HBD:=hid hbd;clear h T hbd hn a3 a5 hi hi' hk hxy ho De hK' GV hlo c3 p3;go_enter func61,ntmps61;go_wp2_with fail;rw[<-hw2];clear hw2;have b0:=fN kT.out (i:=0) (v:=.int .i64 line) rfl;have b1:=fN kT.out (i:=1) (v:=.int .i64 gap) rfl;have p3:=mO.out;have c3:=AK.out;go_quiet (first | (go_at_call 106;exact Calls.quiet_of_same (Ib.out _)));have z0:=fN iG.out (i:=0) (v:=.int .i64 0) rfl;have z1:=fN iG.out (i:=1) (v:=.bool false) rfl;have f0:=fT iG.out 0;have f1:=fT iG.out 1;have qi:=hid (fun(Y:World) (hY:Y.heap[w.heap.size+1]?=some (.cells #[.int .i64 0,.bool false] 55 (0,0))) (x:Int) (y:Bool)=>(show((Y.setCell ⟨w.heap.size+1,0,none⟩ (.int .i64 x)).setCell ⟨w.heap.size+1,1,none⟩ (.bool y)).heap[w.heap.size+1]?=some (.cells #[.int .i64 x,.bool y] 55 (0,0))from fP (fP hY 0 _) 1 _));have DY:=hid (fun(Y:World) (hY:Fr [] w Y) (x:Int) (y:Bool)=>(show Fr [] w ((Y.setCell ⟨w.heap.size+1,0,none⟩ (.int .i64 x)).setCell ⟨w.heap.size+1,1,none⟩ (.bool y))from hY.behind ((gH _ _ _ _).set (aj.2 rfl) _) (fun k hk=>by rw[aj.1 hk];omega)));by_cases hl0:lo=0
 ·subst hl0
  have zK:=hid (show(x,y)=((0:Int),false) by rw[yZ.out,ay rfl]);obtain⟨rfl,rfl⟩:=dY zK.out;clear yZ zK;go_wp2_with (first | (go_at_call 107;refine(FR.out _).mono ?_;rintro e w' ⟨rfl,rfl⟩));refine eU (eW (t:=55) (fr:=(0,0)) rfl _ _ (w.heap.size+1) _ _ rfl (qi.out _ ?h1 _ _) underlying55 rfl (by kernel_rfl)) rfl ?_
  case h1=>exact iG.out
  exact⟨rfl,DY.out (w2.drewN nq) (f_.out.trans (jr _ _)) _ _⟩
 ·have hl0':((lo:Nat):Int)≠0:=by omega
  have agO:(((lo:Nat):Int) == 0)=false:=by simp;omega
  obtain⟨gO,cO',Dd⟩:=fR (by omega) VM.out;cases Dd;have hvp:0<V.length:=by
   have:=qy.out (fX o 0) (kK (by rw[<-Cz.out];omega));omega
  obtain⟨gB,cB,rfl,_,rB⟩:=Oq.out.b.row (by rw[HBD.out];omega);obtain⟨gV,cV,rfl,_,rV⟩:=Oq.out.v.row hvp;have wV:=hid (rB.fr f_.out af);have Ut:=hid (rV.fr f_.out af);obtain⟨aX,cX,NB,_⟩:=id Oq.out.x;subst NB;have j9:=hid (fO Oq.out.o f_.out af);have q0:=fN j9.out (i:=0) (v:=.slice (some ⟨gB,0,none⟩) Bd.length cB) rfl;have q1:=fN j9.out (i:=1) (v:=.slice (some ⟨gV,0,none⟩) V.length cV) rfl;have q2:=fN j9.out (i:=2) (v:=.slice aX X.length cX) rfl;have HSD:=hid (fun(c:Nat) (right:Bool) (Y:World) (hf:Fr [] w2 Y) (hc:c<V.length)=>Sz Bd V gB cB Bd.length gV V.length cV c (.slice aX X.length cX) right Y hc HBD.out (wV.out.fr hf af) (Ut.out.fr hf af) (Iy.out c).1 (by omega));have SC:=hid (fS VM.out f_.out);clear rB rV;by_cases hk0:k=0
  ·subst hk0
   have zK:=hid (show(x,y)=lY Bd V (fX o 0) false by rw[yZ.out,au hl0,ay rfl]);have d0:w2.cell? ⟨gO,0,none⟩=some (.int .i64 (fX o 0:Nat)):=by rw[SC.out.cellAt 0 (by omega)];exact kJ (by rw[<-Cz.out];omega)
   have HC:=hid (qy.out (fX o 0) (kK (by rw[<-Cz.out];omega)));have hlp:(0:Int)<(lo:Int):=by omega
   have AB:=hid (fun(Y:World) (hf:Fr [] w2 Y)=>HSD.out (fX o 0) false Y hf HC.out);rw[<-zK.out]at AB;dsimp only at AB;generalize fX o 0=c0 at *;clear yZ zK;go_wp2_with (first | (go_at_call 107;refine(FR.out _).mono ?_;rintro e w' ⟨rfl,rfl⟩));go_region_with (first | (go_at_call 108;refine(AB.out _ ?_).mono ?_;exact iD _ _ _ rfl rfl rfl rfl;rintro e w4 ⟨rfl,jl⟩;have qz:Fr [] w2 w4:=⟨jl.os,jl.tape,jl.output,jl.size,jl.block⟩;have gP:=hid qz;have Df:=hid (fO iG.out qz af);have y0:=fN Df.out (i:=0) (v:=.int .i64 0) rfl;have y1:=fN Df.out (i:=1) (v:=.bool false) rfl;have g0:=fT Df.out 0;have g1:=fT Df.out 1;clear jl qz))
   all_goals (
    go_wp2_with fail
    refine eU (eW (t:=55) (fr:=(0,0)) rfl _ _ (w.heap.size+1) _ _ rfl (qi.out _ ?h1 _ _) underlying55 rfl (by kernel_rfl)) rfl ?_
    case h1=>exact Df.out
    exact⟨rfl,DY.out w4 (f_.out.trans gP.out) _ _⟩)
  ·have hk0':((k:Nat):Int)≠0:=by omega
   have agP:(((k:Nat):Int) == 0)=false:=by simp;omega
   have zK:=hid (show(x,y)=lY Bd V (fX o (k - 1)) true by rw[yZ.out,au hl0,au hk0]);have hkl':k - 1<lo:=by omega
   have d0:w2.cell? ⟨gO,k - 1,none⟩=some (.int .i64 (fX o (k - 1):Nat)):=by rw[SC.out.cellAt (k - 1) (by omega)];exact kJ (by rw[<-Cz.out];omega)
   have HC:=hid (qy.out (fX o (k - 1)) (kK (by rw[<-Cz.out];omega)));have AB:=hid (fun(Y:World) (hf:Fr [] w2 Y)=>HSD.out (fX o (k - 1)) true Y hf HC.out);rw[<-zK.out]at AB;dsimp only at AB;obtain⟨k1,hk1⟩:∃k1,k1=k - 1:=⟨_,rfl⟩;rw[<-hk1]at d0 AB HC zK hkl';have hw1:IntKind.i64.wrap ((k:Int) - 1)=(k1:Int):=by rw[eT];omega
   have agQ:(k1:Int)<(lo:Int):=by omega
   generalize fX o k1=c0 at *;clear yZ zK hk1;go_wp2_with (first | (go_at_call 107;refine(FR.out _).mono ?_;rintro e w' ⟨rfl,rfl⟩));go_region_with (first | (go_at_call 108;refine(AB.out _ ?_).mono ?_;exact iD _ _ _ rfl rfl rfl rfl;rintro e w4 ⟨rfl,jl⟩;have qz:Fr [] w2 w4:=⟨jl.os,jl.tape,jl.output,jl.size,jl.block⟩;have gP:=hid qz;have Df:=hid (fO iG.out qz af);have y0:=fN Df.out (i:=0) (v:=.int .i64 0) rfl;have y1:=fN Df.out (i:=1) (v:=.bool false) rfl;have g0:=fT Df.out 0;have g1:=fT Df.out 1;clear jl qz))
   all_goals (
    go_wp2_with fail
    refine eU (eW (t:=55) (fr:=(0,0)) rfl _ _ (w.heap.size+1) _ _ rfl (qi.out _ ?h1 _ _) underlying55 rfl (by kernel_rfl)) rfl ?_
    case h1=>exact Df.out
    exact⟨rfl,DY.out w4 (f_.out.trans gP.out) _ _⟩)
theorem SE (B P:Nat)(Bd V X:List Int)(r:Int)(Ls:List Ln)(v0 v1 v2 vL:Value)(hs:List Value)(line x:Int)(w:World)(h:LP w B P Bd V X r Ls v0 v1 v2 vL hs)(T:xy Bd V Ls)(hbd:Bd.length=V.length+1)(hv4:V.length<=400)(yu:0<Ls.length)(hK:Ls.length<=400)(hlo:∀l∈Ls,l.o.length<=1000) :
 Calls prog 63 #[.pointer (some ⟨P,0,none⟩),.int .i64 line,.int .i64 x] w fun e w'=>e=.returned (.agg #[.int .i64 (qE Bd V Ls line x).1,.bool (qE Bd V Ls line x).2])/\Fr [] w w':=by
 obtain⟨i,hi,hiK⟩:=r7 (x:=line) (m:=Ls.length - 1);have hi':near line ((Ls.length:Int) - 1)=(i:Int):=by rw[<-hi];congr 1;omega
 have hil:i<Ls.length:=by omega
 have hmem:=kE hil
 have HHP:=hid (show qE Bd V Ls line x=iM Bd V Ls (i:Int) (iR (ji Ls i).x x (ji Ls i).x.length:Nat) by
  unfold qE;dsimp only;rw[hi',cH])
 obtain⟨U,_,hn⟩:=h.n;obtain⟨vO,vX,_,_,_,a4,_,a6,_⟩:=hn i _ (mL hil);obtain⟨gL,cL,qw⟩:=fR yu h.l;subst qw;have hxl:=T.xl _ hmem;have hlo1:=hlo _ hmem;obtain⟨gX,cX,NB⟩:=fR (by omega) a6;subst NB;have KZ:=hid (show rowAt w gX (ji Ls i).x.length (ji Ls i).x from fun j hj=>by rw[a6.cellAt j (by omega),iJ hj]);have hxb:=T.xb _ hmem;have Ib:=hid (fun Y:World=>zJ (some ⟨gL,0,none⟩) Ls.length cL line Y yu (by omega));rw[hi']at Ib;have agR:=hid (fun(Y:World) (hf:Fr [] w Y)=>Ia (ji Ls i).x x (nth (ji Ls i).x ((ji Ls i).x.length - 1)) gX (ji Ls i).x.length cX Y rfl (by omega) (by omega) (KZ.out.fr hf af) (fun k hk=>⟨(hxb k hk).1,(hxb k hk).2.1⟩) rfl (hxb _ (by omega)).2.2);have JY:=hid (fun(Y:World) (hf:Fr [] w Y)=>ET B P Bd V X r Ls v0 v1 v2 (.slice (some ⟨gL,0,none⟩) Ls.length cL) hs (i:Int) (iR (ji Ls i).x x (ji Ls i).x.length:Nat) Y (h.fr hf (fun k hk=>absurd hk af)) T hbd hv4 yu hK hlo);rw[<-HHP.out]at JY;obtain⟨a,b,hab⟩:∃a b,qE Bd V Ls line x=(a,b):=⟨_,_,rfl⟩;rw[hab]at JY ⊢;have c3:w.cell? ⟨gL,i * 4+3,none⟩=some (.slice (some ⟨gX,0,none⟩) (ji Ls i).x.length cX):=by rw[h.l.cellAt _ (by omega)];exact a4
 have p3:=fN h.o (i:=3) (v:=.slice (some ⟨gL,0,none⟩) Ls.length cL) rfl;obtain⟨w2,hw2⟩:∃w2,w2=w.alloc (.cells #[.int .i64 0,.bool false] 55):=⟨_,rfl⟩;have f_:=hid (show Fr [] w w2 by rw[hw2];exact(Fr.refl [] w).alloc _);have iG:=hid (show w2.heap[w.heap.size]?=some (.cells #[.int .i64 0,.bool false] 55 (0,0)) by rw[hw2];exact fU w _);generalize iR (ji Ls i).x x (ji Ls i).x.length=bx at *;generalize (ji Ls i).x.length=lx at *;have sY:(i:Int)<(Ls.length:Int):=by omega
 generalize Ls.length=K at *;have rW:P<w.heap.size:=eS _ _ p3;have hgl:gL<w.heap.size:=eS _ _ c3;clear h T hbd hn a4 a6 hi hi' hab hlo hxb hxl hmem KZ HHP;go_enter func63,ntmps63;have HW2:=hid hw2;clear hw2
 go_wp2_with (first
  | (go_at_call 106;refine(Ib.out _).mono ?_;rintro e w' ⟨rfl,rfl⟩)
  | (go_at_call 109;rw[<-HW2.out];refine(agR.out _ f_.out).mono ?_;rintro e w3 ⟨rfl,hf3⟩;have iO:=hid hf3;clear hf3)
  | (go_at_call 61;refine(JY.out _ (f_.out.trans iO.out)).mono ?_;rintro e w4 ⟨rfl,jl⟩;have gP:=hid (iO.out.trans jl);have jD:=hid (fO iG.out (iO.out.trans jl) af);have z0:=fN jD.out (i:=0) (v:=.int .i64 0) rfl;have z1:=fN jD.out (i:=1) (v:=.bool false) rfl;have f0:=fT jD.out 0;have f1:=fT jD.out 1;clear jl))
 have qi:=hid (show((w4.setCell ⟨w.heap.size,0,none⟩ (.int .i64 a)).setCell ⟨w.heap.size,1,none⟩ (.bool b)).heap[w.heap.size]?=some (.cells #[.int .i64 a,.bool b] 55 (0,0))from fP (fP jD.out 0 _) 1 _);refine eU (eW (t:=55) (fr:=(0,0)) rfl _ _ w.heap.size _ _ rfl qi.out underlying55 rfl (by kernel_rfl)) rfl ?_;exact⟨rfl,(f_.out.trans gP.out).behind ((gH _ _ _ _).set (aj.2 rfl) _) (fun k hk=>by rw[aj.1 hk];exact ak _)⟩
end Go.Proofs.YtnakejhohdbfdaaGreatDoor

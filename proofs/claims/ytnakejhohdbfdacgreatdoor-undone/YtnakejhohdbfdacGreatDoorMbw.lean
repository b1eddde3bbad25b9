import Derived.Test.YtnakejhohdbfdacGreatDoorMbv
set_option maxHeartbeats 16000000
set_option maxRecDepth 100000
namespace Go.Proofs.YtnakejhohdbfdacGreatDoor.Cls.Dc
open Go.RowKit Dec BA pS Lay j9 Go.Proofs.Tryz
theorem acH:(Tryz.prog.info? 9).map (fun i=>(i.zero,i.size,i.bytes))=some (some (.string ⟨#[]⟩),1,16):=by kernel_rfl
theorem VH (t:ByteArray):∀u∈[Value.string t],u.oneCell'=true:=by
 intro u hu;rw[ak.1 hu];rfl
theorem Zg (rest:Code)(Qp:Exit->Act->World->Prop)(W0 w:World)(B D Q k nV cV:Nat)(aV:Option Addr)(R:Int)(l:List Int)(mv:Bool)(hV:nV<=200)(VI:Scr W0 aV nV)(hst:St W0 w B D Q k R l [] [] (.slice none 0 0) [])(hl:La w k (tu l) mv 0 0)(u0 u1 u3 u4 u5 u6 u8 u9 u12 u13 u14 u15 u16 u17 u18 u19 u20 u21 u22 u23 u24 u25 u26 u27 u28 u29 u30 u31 u32 u33 u34 u35 u36 u37 u38 u39 u40 u41 u42 u43 u44 u45 u46 u47 u48 u49 u50 u51 u52 u53 u54 u55 u56 u57 u58 u59 u60 u61 u62 u63 u64 u65 u66 u67 u68 u69 u70 u71 u72 u73 u74 u75 u76 u77 u78 u79 u80 u81 u82 u83 u84 u85 u86 u87 u88 u89 u90 u91 u92 u93 u94 u95 u96 u97 u98 u99 u100 u101 u102 u103 u104 u105 u106 u107 u108 u109 u110 u111 u112 u113 u114 u115 u116 u117 u118 u119 u120 u121 u122 u123 u124 u125 u126 u127 u128 u129 u130 u131 u132 u133 u134 u135 u136 u137 u138 u139 u140 u141 u142 u143 u144 u145 u146 u147 u148 u149 u150 u151 u152 u153 u154 u155 u156 u157 u158 u159 u160 u161 u162 u163 u164 u165 u166 u167 u168 u169 u170 u171 u172 u173 u174 u175 u176 u177 u178 u179 u180 u181 u182 u183 u184 u185 u186 u187 u188 u189 u190 u191 u192 u193 u194 u195 u196 u197 u198 u199 u200 u201 u202 u203 u204 u205 u206 u207 u208 u209 u210 u211 u212 u213 u214 u215 u216 u217 u218:Value)
 (hrest:∀(w':World) (l':List Int) (us':List Mo) (aS:Option Addr) (cS sl:Nat) (seen:List ByteArray) (mv':Bool) (v6 v12 v13 v61 v62 v63 v64 v65 v66 v67 v68 v69 v70 v71 v72 v73 v74 v75 v76 v77 v78 v79 v80 v81 v82 v83 v84 v85 v86 v87 v88 v89 v90 v91 v92 v93 v94 v95 v96 v97 v98 v99 v100 v101 v102 v103 v104 v105 v106 v107 v108 v109 v110 v111 v112 v113 v114 v115 v116 v117 v118 v119 v120 v121 v122 v123 v124:Value),St W0 w' B D Q k R l' us' [] (.slice aS sl cS) seen->Sn seen us'->seen.length=sl->sl<=200->La w' k (tu l') mv' us'.length 0->Code.wp prog rest Qp ⟨#[u0,u1,.slice aV nV cV,u3,u4,u5,v6,.pointer (some ⟨Q,0,none⟩),u8,u9,.slice aS sl cS,.pointer (some ⟨k,0,none⟩),v12,v13,u14,u15,u16,u17,u18,u19,u20,u21,u22,u23,u24,u25,u26,u27,u28,u29,u30,u31,u32,u33,u34,u35,u36,u37,u38,u39,u40,u41,u42,u43,u44,u45,u46,u47,u48,u49,u50,u51,u52,u53,u54,u55,u56,u57,u58,u59,u60,v61,v62,v63,v64,v65,v66,v67,v68,v69,v70,v71,v72,v73,v74,v75,v76,v77,v78,v79,v80,v81,v82,v83,v84,v85,v86,v87,v88,v89,v90,v91,v92,v93,v94,v95,v96,v97,v98,v99,v100,v101,v102,v103,v104,v105,v106,v107,v108,v109,v110,v111,v112,v113,v114,v115,v116,v117,v118,v119,v120,v121,v122,v123,v124,u125,u126,u127,u128,u129,u130,u131,u132,u133,u134,u135,u136,u137,u138,u139,u140,u141,u142,u143,u144,u145,u146,u147,u148,u149,u150,u151,u152,u153,u154,u155,u156,u157,u158,u159,u160,u161,u162,u163,u164,u165,u166,u167,u168,u169,u170,u171,u172,u173,u174,u175,u176,u177,u178,u179,u180,u181,u182,u183,u184,u185,u186,u187,u188,u189,u190,u191,u192,u193,u194,u195,u196,u197,u198,u199,u200,u201,u202,u203,u204,u205,u206,u207,u208,u209,u210,u211,u212,u213,u214,u215,u216,u217,u218],[]⟩ w') :
 Code.wp prog ((Zb 10).seq rest) Qp ⟨#[u0,u1,.slice aV nV cV,u3,u4,u5,u6,.pointer (some ⟨Q,0,none⟩),u8,u9,.slice none 0 0,.pointer (some ⟨k,0,none⟩),u12,u13,u14,u15,u16,u17,u18,u19,u20,u21,u22,u23,u24,u25,u26,u27,u28,u29,u30,u31,u32,u33,u34,u35,u36,u37,u38,u39,u40,u41,u42,u43,u44,u45,u46,u47,u48,u49,u50,u51,u52,u53,u54,u55,u56,u57,u58,u59,u60,u61,u62,u63,u64,u65,u66,u67,u68,u69,u70,u71,u72,u73,u74,u75,u76,u77,u78,u79,u80,u81,u82,u83,u84,u85,u86,u87,u88,u89,u90,u91,u92,u93,u94,u95,u96,u97,u98,u99,u100,u101,u102,u103,u104,u105,u106,u107,u108,u109,u110,u111,u112,u113,u114,u115,u116,u117,u118,u119,u120,u121,u122,u123,u124,u125,u126,u127,u128,u129,u130,u131,u132,u133,u134,u135,u136,u137,u138,u139,u140,u141,u142,u143,u144,u145,u146,u147,u148,u149,u150,u151,u152,u153,u154,u155,u156,u157,u158,u159,u160,u161,u162,u163,u164,u165,u166,u167,u168,u169,u170,u171,u172,u173,u174,u175,u176,u177,u178,u179,u180,u181,u182,u183,u184,u185,u186,u187,u188,u189,u190,u191,u192,u193,u194,u195,u196,u197,u198,u199,u200,u201,u202,u203,u204,u205,u206,u207,u208,u209,u210,u211,u212,u213,u214,u215,u216,u217,u218],[]⟩ w:=by
 have HX:=hid hrest;have wW:=hid VI;have HST:=hid hst;have HL:=hid hl;obtain⟨i0,hi0,hz0,hz1,hz2⟩:=fY acH;clear hrest VI hst hl
 conv=>arg 2;arg 1;whnf
 go_wp2_with fail;go_loopw [10,12] (fun sv iv wr=>∃(i:Nat) (l':List Int) (us':List Mo) (aS:Option Addr) (cS sl:Nat) (seen:List ByteArray) (mv':Bool),sv=.slice aS sl cS/\iv=.int .i64 i/\i<=nV/\sl<=i/\Hid (St W0 wr B D Q k R l' us' [] (.slice aS sl cS) seen)/\Hid (Sn seen us')/\Hid (seen.length=sl)/\Hid (La wr k (tu l') mv' us'.length 0)) (fun _ iv _=>nV - (intOf iv).toNat)
 case atStart=>exact⟨0,l,[],none,0,0,[],mv,rfl,rfl,aN _,aN _,HST,hid Sn.nil,hid rfl,HL⟩
 case round =>
  clear HST HL;obtain⟨i,l1,VG,aS,cS,sl,seen,Zf,rfl,rfl,hin,hsi,NL,DD,HSL,J5⟩:=hrel;by_cases hi:i<nV
  ·have y_:(i:Int)<(nV:Int):=by omega
   have HI:=hid hi
   rcases wW.out with h0 | ⟨ad,had,hcs⟩
   ·omega
   subst had;obtain⟨d,ext,y1,y2,bk,tt,hm⟩:=hcs i hi;obtain⟨s0,s1,s2,s3,s4,s5⟩:=uZ (Fr.of_below (S:=[]) NL.out.b) hm;have HM:=hid hm;clear hm hcs hi;by_cases hT:4096<tt.size
   ·have hTI:(4096:Int)<(tt.size:Int):=by omega
    as_aux_lemma =>
     go_wp2;exact⟨⟨i+1,l1,VG,aS,cS,sl,seen,Zf,rfl,by go_num,HI.out,by omega,NL,DD,HSL,J5⟩,by have:=HI.out;simp[intOf];omega⟩
   have hTI:decide ((4096:Int)<(tt.size:Int))=false:=by simp;omega
   have hTP:¬(4096:Int)<(tt.size:Int):=by omega
   by_cases h16:d=16
   ·subst h16
    as_aux_lemma =>
     go_wp2;exact⟨⟨i+1,l1,VG,aS,cS,sl,seen,Zf,rfl,by go_num,HI.out,by omega,NL,DD,HSL,J5⟩,by have:=HI.out;simp[intOf];omega⟩
   by_cases SO:d=17
   ·subst SO
    as_aux_lemma =>
     go_wp2;exact⟨⟨i+1,l1,VG,aS,cS,sl,seen,Zf,rfl,by go_num,HI.out,by omega,NL,DD,HSL,J5⟩,by have:=HI.out;simp[intOf];omega⟩
   have akR:(d == 16)=false:=by simpa using h16
   have akS:(d == 17)=false:=by simpa using SO
   have HD:=hid (And.intro h16 SO);have C7:=hid (NL.out.go d y1 y2 ext bk tt (by omega));have c13:wr.cell? ⟨k,13,none⟩=some (.string (tu l1)):=by
    obtain⟨WM,WN,WO,WQ,x1,x2,x3,x4,x5,x6,x7,WR,WT,WU,WV,WW,cB0,ho⟩:=J5.out;exact iG ho rfl
   obtain⟨t1,ht1⟩:∃t1,t1=tu l1:=⟨_,rfl⟩;rw[<-ht1]at c13;have HT1:=hid ht1;clear ht1;by_cases hr:11<=d/\d<=13
   ·obtain⟨hd1,hd2⟩:=hr
    as_aux_lemma =>
     go_wp2_with fail
     rename_i K1 hK1
     refine C7.out.mono ?_;rintro e w2 ⟨mv',l',us',rs',hS,⟨ao,ab,fo,fb,a1,a2,gx,b1,b2,c1,c2,aT,nT,cT,aB,nB,cB,rfl⟩,uD,hch,D4⟩;obtain⟨rfl,hcase⟩:=zK hS HD.out.1 HD.out.2;have HS2:=hid uD;obtain⟨WM,WN,WO,WQ,x1,x2,x3,x4,x5,x6,x7,WR,WT,WU,WV,WW,cB0,ho⟩:=J5.out;have jO:=hid (hch.obj ho D4 (by decide) (by decide));obtain⟨nU,tB⟩:∃nU,nU=us'.length:=⟨_,rfl⟩;obtain⟨nt,hnt⟩:∃nt,nt=tu l':=⟨_,rfl⟩;rw[<-tB,<-hnt,show([]:List Mo).length=0 from rfl];have FC:=hid tB;have zJ:=hid hnt;cases mv' with
     | true =>
       have hrec:∃m:Mo,m.l=l1/\us'=yx VG m:=by
        rcases hcase with⟨_,_,_,h⟩ | ⟨h,_⟩
        ·exact h
        ·rcases h with h | h
         ·exact absurd ⟨hd1,hd2⟩ h
         ·cases h
       have af0:=hid (show Sn (seen++[t1]) us' by
        obtain⟨m,hm,rfl⟩:=hrec
        rw[HT1.out]
        exact DD.out.more hm)
       clear hrec;refine hK1 _ _ (yD (k:=k) (cells:=AV ao ab fo fb a1 a2 gx b1 b2 c1 c2 aT nT cT true nt (.slice aB nB cB) nU 0) rfl rfl rfl rfl jO.out rfl rfl (by kernel_rfl) ?_);intro w3 hf3 ho3;have Cu:=hid (HS2.out.set hf3 ho3);have lD:=hid ho3;obtain⟨z0,_⟩:=uZ (Fr.of_below (S:=[]) Cu.out.b) HM.out;have z12:=iG lD.out (i:=12) (v:=.bool true) rfl;have z13:=iG lD.out (i:=13) (v:=.string nt) rfl;clear ho hch D4 uD hS C7 tB hnt hcase s0 s1 s2 s3 s4 s5 c13 hf3 ho3;go_wp2_with (at_builtin;refine wpList_append_own_at _ rfl _ _ 38 rfl W0.heap.size 9 i0 _ 1 16 underlying38 hi0 hz0 hz1 hz2 rfl (by decide) _ seen.length (seen.map Value.string) rfl ?own _ 1 1 [.string t1] rfl rfl (kM _ _ _ _ (by simp)) (VH _) (by have:=HSL.out;unfold maxLen;omega) (by have:=HSL.out;omega) ?Gk ?_)
       case own=>exact iM Cu.out.s ((Fr.refl [] _).alloc _)
       case Gk=>exact aK Cu.out.b.size ((Fr.refl [] w3).alloc _).size
       intro v' w5 qi hgrow hnil hat;obtain⟨Zh,hk5⟩:=(Cu.out.oN ((Fr.refl [] w3).alloc _)).app qi hgrow (by simpa using hat);obtain⟨a5,c5,rfl,_⟩:=Wr.jo Zh.s;have HS5:=hid Zh;have rK:=hid (hk5.trans (iJ lD.out ((Fr.refl [] w3).alloc _) aj));clear qi hgrow hnil hat Zh hk5 z0 z12 z13;go_wp2;exact⟨⟨i+1,l',us',a5,c5,sl+1,seen++[t1],true,by rw[aD,HSL.out];rfl,by go_num,HI.out,by omega,hid (by have h:=HS5.out;rw[aD,HSL.out]at h;exact h),af0,hid (by rw[aD,HSL.out];rfl),hid ⟨ao,ab,fo,fb,a1,a2,gx,b1,b2,c1,c2,aT,nT,cT,aB,nB,cB,by rw[<-FC.out,<-zJ.out];exact rK.out⟩⟩,by have:=HI.out;simp[intOf];omega⟩
     | false =>
       have hsame:l'=l1/\us'=VG:=by
        rcases hcase with⟨_,_,h,_⟩ | ⟨_,h⟩
        ·cases h
        ·exact h
       obtain⟨rfl,rfl⟩:=hsame;have Zi:nt=t1:=by rw[hnt,HT1.out]
       refine hK1 _ _ (yD (k:=k) (cells:=AV ao ab fo fb a1 a2 gx b1 b2 c1 c2 aT nT cT false nt (.slice aB nB cB) nU 0) rfl rfl rfl rfl jO.out rfl rfl (by kernel_rfl) ?_);intro w3 hf3 ho3;have Cu:=hid (HS2.out.set hf3 ho3);have lD:=hid ho3;obtain⟨z0,_⟩:=uZ (Fr.of_below (S:=[]) Cu.out.b) HM.out;have z12:=iG lD.out (i:=12) (v:=.bool false) rfl;have z13:=iG lD.out (i:=13) (v:=.string nt) rfl;clear ho hch D4 uD hS C7 tB hnt hcase s0 s1 s2 s3 s4 s5 c13 hf3 ho3;clear HT1;subst Zi;go_wp2;exact⟨⟨i+1,l',us',aS,cS,sl,seen,false,rfl,by go_num,HI.out,by omega,Cu,DD,HSL,hid ⟨ao,ab,fo,fb,a1,a2,gx,b1,b2,c1,c2,aT,nT,cT,aB,nB,cB,by rw[<-FC.out,<-zJ.out];exact lD.out⟩⟩,by have:=HI.out;simp[intOf];omega⟩
   ·have hor:(decide ((11:Int)<=d)=false/\¬(11:Int)<=d/\True/\True)\/((11:Int)<=d/\decide (d<=13)=false/\¬d<=13/\True):=by
     by_cases h:11<=d
     ·exact .inr ⟨h,by simp;omega,by omega,trivial⟩
     ·exact .inl ⟨by simp;omega,by omega,trivial,trivial⟩
    have HR:=hid hr;clear hr;obtain⟨hd1,hd2,hd3,hd4⟩ | ⟨hd1,hd2,hd3,hd4⟩:=hor
    all_goals (
     as_aux_lemma =>
      go_wp2_with fail
      rename_i K1 hK1
      refine C7.out.mono ?_
      rintro e w2 ⟨mv',l',us',rs',hS,⟨ao,ab,fo,fb,a1,a2,gx,b1,b2,c1,c2,aT,nT,cT,aB,nB,cB,rfl⟩,uD,hch,D4⟩
      obtain⟨rfl,hcase⟩:=zK hS HD.out.1 HD.out.2
      have HS2:=hid uD
      obtain⟨WM,WN,WO,WQ,x1,x2,x3,x4,x5,x6,x7,WR,WT,WU,WV,WW,cB0,ho⟩:=J5.out
      have jO:=hid (hch.obj ho D4 (by decide) (by decide))
      obtain⟨nU,tB⟩:∃nU,nU=us'.length:=⟨_,rfl⟩
      obtain⟨nt,hnt⟩:∃nt,nt=tu l':=⟨_,rfl⟩
      rw[<-tB,<-hnt,show([]:List Mo).length=0 from rfl]
      have FC:=hid tB
      have zJ:=hid hnt
      have hsame:l'=l1/\us'=VG:=by
       rcases hcase with⟨h1,h2,_⟩ | ⟨_,h⟩
       ·exact absurd ⟨h1,h2⟩ HR.out
       ·exact h
      obtain⟨rfl,rfl⟩:=hsame
      have Zi:nt=t1:=by rw[hnt,HT1.out]
      refine hK1 _ _ (yD (k:=k) (cells:=AV ao ab fo fb a1 a2 gx b1 b2 c1 c2 aT nT cT mv' nt (.slice aB nB cB) nU 0) rfl rfl rfl rfl jO.out rfl rfl (by kernel_rfl) ?_)
      intro w3 hf3 ho3
      have Cu:=hid (HS2.out.set hf3 ho3)
      have lD:=hid ho3
      obtain⟨z0,_⟩:=uZ (Fr.of_below (S:=[]) Cu.out.b) HM.out
      have z12:=iG lD.out (i:=12) (v:=.bool mv') rfl
      have z13:=iG lD.out (i:=13) (v:=.string nt) rfl
      clear ho hch D4 uD hS C7 tB hnt hcase s0 s1 s2 s3 s4 s5 c13 hf3 ho3
      clear HT1
      subst Zi
      go_wp2
      exact⟨⟨i+1,l',us',aS,cS,sl,seen,mv',rfl,by go_num,HI.out,by omega,Cu,DD,HSL,hid ⟨ao,ab,fo,fb,a1,a2,gx,b1,b2,c1,c2,aT,nT,cT,aB,nB,cB,by rw[<-FC.out,<-zJ.out];exact lD.out⟩⟩,by have:=HI.out;simp[intOf];omega⟩)
  ·have hie:i=nV:=by omega
   subst hie;have y_:decide ((i:Int)<(i:Int))=false:=by simp
   as_aux_lemma =>
    go_wp2;exact HX.out _ l1 VG aS cS sl seen Zf _ _ _ _ _ _ _ _ _ _ _ _ _ _ _ _ _ _ _ _ _ _ _ _ _ _ _ _ _ _ _ _ _ _ _ _ _ _ _ _ _ _ _ _ _ _ _ _ _ _ _ _ _ _ _ _ _ _ _ _ _ _ _ _ _ _ _ NL.out DD.out HSL.out (by omega) J5.out
theorem H9 (s:ByteArray)(n:Nat)(R:Int)(aV:Option Addr)(nV cV:Nat)(w:World)(hG:Gr w)(hR:-9223372036854775808<=R/\R<=9223372036854775807)(hend:Dec.Ends s n)(hc:s.size<=4096)(hz:(tu (qI s n)).size<=400)(hV:200<nV) :
 Calls prog 3 #[.string s,.int .i64 R,.slice aV nV cV] w fun e w'=>e=.returned (.bool true)/\Below w.heap.size w w':=by
 have H6:=hid (Se w hG hG.nine);have WI:=hid (fun(Y:World) (hf:Gr Y)=>Dp s n R Y hf hR hend hf.nine hc hz);have hVI:(200:Int)<(nV:Int):=by omega
 have HG:=hid hG;clear hG hend hz hV hR;go_enter func3,ntmps3;go_wp2_with fail;refine H6.out.mono ?_;rintro e w1 ⟨Q,D,hi,rfl,hQ,Bp,kS,hf1⟩;have C7:=hid (Sf kS hQ Bp);have HQ:=hid hQ;have SP:=hid Bp;have jc:=hid hf1;clear hQ kS hf1 Bp H6;go_wp2_with fail;refine C7.out.mono ?_;rintro e w2 ⟨m,n1,n2,hm,⟨ao,ab,fo,fb,a1,a2,gx,b1,b2,c1,c2,aS,nS,cS,aB,nB,cB,rfl⟩,ao2,ab2,fo2,fb2,lo2,hi2,kS,_,kH⟩;obtain⟨w3,hw3⟩:∃w3,w3=w2.alloc (.cells (AV ao ab fo fb a1 a2 gx b1 b2 c1 c2 aS nS cS true ⟨#[120,97,98,99]⟩ (.slice aB nB cB) n1 n2) 34):=⟨_,rfl⟩;have n_:=hid (show Fr [] w2 w3 by rw[hw3];exact(Fr.refl [] w2).alloc _);have lD:=hid (show w3.heap[w2.heap.size]?=some (.cells (AV ao ab fo fb a1 a2 gx b1 b2 c1 c2 aS nS cS true ⟨#[120,97,98,99]⟩ (.slice aB nB cB) n1 n2) 34 (0,0)) by rw[hw3];exact iL w2 _);have hDl:D<w2.heap.size:=by
  obtain⟨vB,Z,P,Bl,V,Ls,vU,vR,L,aim,goal,hD,_⟩:=kS.x;exact iO hD
 have WJ:=hid (Sg (kS.fr n_.out) hm (iJ (kH.obj HQ.out SP.out (by decide) (by decide)) n_.out aj) SP.out);have HCH:=hid (kH.trans (lM.FA n_.out));clear kS kH C7 hm;go_wp2_with fail;rw[<-hw3];clear hw3;refine WJ.out.mono ?_;rintro e w4 ⟨nU,nR,⟨lR,mg,mV,mX,a1',JT,Sh,b1',b2',c1',c2',Si,Sj,NU,Sk,Sl,AQ,rfl⟩,kH⟩;have r_:=hid (HCH.out.trans kH);have oI:=hid (kH.obj lD.out (by omega) (by decide) (by decide));obtain⟨w5,nK⟩:∃w5,w5=w4.alloc (.cells (AV lR mg mV mX a1' JT Sh b1' b2' c1' c2' Si Sj NU true abc (.slice Sk Sl AQ) nU nR) 34):=⟨_,rfl⟩;have kD:=hid (show Fr [] w4 w5 by rw[nK];exact(Fr.refl [] w4).alloc _);have rK:=hid (iJ oI.out kD.out aj);have p12:(w4.alloc (.cells (AV lR mg mV mX a1' JT Sh b1' b2' c1' c2' Si Sj NU true abc (.slice Sk Sl AQ) nU nR) 34)).cell? ⟨w2.heap.size,12,none⟩=some (.bool true):=by rw[<-nK];exact iG rK.out rfl
 have p13:(w4.alloc (.cells (AV lR mg mV mX a1' JT Sh b1' b2' c1' c2' Si Sj NU true abc (.slice Sk Sl AQ) nU nR) 34)).cell? ⟨w2.heap.size,13,none⟩=some (.string ⟨#[120,97,98,99]⟩):=by rw[<-nK];exact iG rK.out rfl
 have Wq:=hid (show Below w.heap.size w w5 from⟨kD.out.os.trans (r_.out.os.trans jc.out.os),kD.out.tape.trans (r_.out.tape.trans jc.out.tape),kD.out.output.trans (r_.out.output.trans jc.out.output),aK jc.out.size (aK r_.out.size kD.out.size),fun k hk=>(kD.out.block k (aM (aM hk jc.out.size) r_.out.size) aj).trans ((r_.out.low k hk (aM hk jc.out.size)).trans (jc.out.block k hk aj))⟩);clear kH WJ;go_wp2_with fail;rw[<-nK];clear nK p12 p13;have WK:=hid (Fr.of_below (S:=[]) Wq.out);refine(WI.out w5 (HG.out.fr WK.out (fun k hk=>absurd hk aj))).mono ?_;rintro e w6 ⟨Q6,D6,hi6,rfl,_,_,_,jJ⟩;have PC:=hid ((WK.out.trans jJ).below (au _) (fun _ hk=>absurd hk aj));clear jJ WI;go_wp2;go_ret;exact⟨rfl,PC.out⟩
def Zj:Nat->Code->Code->Code
 | 0,_,r=>r
 | n+1,.seq a b,r=>.seq a (Zj n b r)
 | _+1,c,_=>c
theorem Zk (s:ByteArray)(n:Nat)(R:Int)(aV:Option Addr)(nV cV:Nat)(w:World)(P:Ending->World->Prop)(hG:Gr w)(hR:-9223372036854775808<=R/\R<=9223372036854775807)(hend:Dec.Ends s n)(hc:s.size<=4096)(hz:(tu (qI s n)).size<=400)(hV:nV<=200)
 (hrest:∀(w':World) (B D Q k:Nat) (l:List Int) (mv:Bool) (u0 u1 u3 u4 u5 u6 u8 u9 u12 u13 u14 u15 u16 u17 u18 u19 u20 u21 u22 u23 u24 u25 u26 u27 u28 u29 u30 u31 u32 u33 u34 u35 u36 u37 u38 u39 u40 u41 u42 u43 u44 u45 u46 u47 u48 u49 u50 u51 u52 u53 u54 u55 u56 u57 u58 u59 u60 u61 u62 u63 u64 u65 u66 u67 u68 u69 u70 u71 u72 u73 u74 u75 u76 u77 u78 u79 u80 u81 u82 u83 u84 u85 u86 u87 u88 u89 u90 u91 u92 u93 u94 u95 u96 u97 u98 u99 u100 u101 u102 u103 u104 u105 u106 u107 u108 u109 u110 u111 u112 u113 u114 u115 u116 u117 u118 u119 u120 u121 u122 u123 u124 u125 u126 u127 u128 u129 u130 u131 u132 u133 u134 u135 u136 u137 u138 u139 u140 u141 u142 u143 u144 u145 u146 u147 u148 u149 u150 u151 u152 u153 u154 u155 u156 u157 u158 u159 u160 u161 u162 u163 u164 u165 u166 u167 u168 u169 u170 u171 u172 u173 u174 u175 u176 u177 u178 u179 u180 u181 u182 u183 u184 u185 u186 u187 u188 u189 u190 u191 u192 u193 u194 u195 u196 u197 u198 u199 u200 u201 u202 u203 u204 u205 u206 u207 u208 u209 u210 u211 u212 u213 u214 u215 u216 u217 u218:Value),St w w' B D Q k R l [] [] (.slice none 0 0) []->La w' k (tu l) mv 0 0->Code.wp prog (VC 10) (bodyPost prog Tryz.f3 P) ⟨#[u0,u1,.slice aV nV cV,u3,u4,u5,u6,.pointer (some ⟨Q,0,none⟩),u8,u9,.slice none 0 0,.pointer (some ⟨k,0,none⟩),u12,u13,u14,u15,u16,u17,u18,u19,u20,u21,u22,u23,u24,u25,u26,u27,u28,u29,u30,u31,u32,u33,u34,u35,u36,u37,u38,u39,u40,u41,u42,u43,u44,u45,u46,u47,u48,u49,u50,u51,u52,u53,u54,u55,u56,u57,u58,u59,u60,u61,u62,u63,u64,u65,u66,u67,u68,u69,u70,u71,u72,u73,u74,u75,u76,u77,u78,u79,u80,u81,u82,u83,u84,u85,u86,u87,u88,u89,u90,u91,u92,u93,u94,u95,u96,u97,u98,u99,u100,u101,u102,u103,u104,u105,u106,u107,u108,u109,u110,u111,u112,u113,u114,u115,u116,u117,u118,u119,u120,u121,u122,u123,u124,u125,u126,u127,u128,u129,u130,u131,u132,u133,u134,u135,u136,u137,u138,u139,u140,u141,u142,u143,u144,u145,u146,u147,u148,u149,u150,u151,u152,u153,u154,u155,u156,u157,u158,u159,u160,u161,u162,u163,u164,u165,u166,u167,u168,u169,u170,u171,u172,u173,u174,u175,u176,u177,u178,u179,u180,u181,u182,u183,u184,u185,u186,u187,u188,u189,u190,u191,u192,u193,u194,u195,u196,u197,u198,u199,u200,u201,u202,u203,u204,u205,u206,u207,u208,u209,u210,u211,u212,u213,u214,u215,u216,u217,u218],[]⟩ w') :
 Calls prog 3 #[.string s,.int .i64 R,.slice aV nV cV] w P:=by
 have H6:=hid (Se w hG hG.nine);have WI:=hid (fun(Y:World) (hf:Gr Y)=>Dp s n R Y hf hR hend hf.nine hc hz);have hVI:decide ((200:Int)<(nV:Int))=false:=by simp;omega
 have HX:=hid hrest;have HG:=hid hG;clear hG hend hz hV hR hrest;refine calls_of_wp (c:=Zj 10 (Tryz.f3.body.getD .skip) (VC 10)) func3 (by rfl) ?_
 simp only[ntmps3,cK,bg,List.length_nil,Nat.reduceAdd,Nat.reduceSub,bY,
  bZ,cN,b_,bT,bV]
 generalize VC 10=rest at HX ⊢
 conv=>arg 2;dsimp only[Zj,Tryz.f3,Option.getD]
 go_wp2_with fail;refine H6.out.mono ?_;rintro e w1 ⟨Q,D,hi,rfl,hQ,Bp,kS,hf1⟩;simp only[];have C7:=hid (Sf kS hQ Bp);have HQ:=hid hQ;have SP:=hid Bp;have jc:=hid hf1;clear hQ kS hf1 Bp H6;go_wp2_with fail;refine C7.out.mono ?_;rintro e w2 ⟨m,n1,n2,hm,⟨ao,ab,fo,fb,a1,a2,gx,b1,b2,c1,c2,aS,nS,cS,aB,nB,cB,rfl⟩,ao2,ab2,fo2,fb2,lo2,hi2,kS,_,kH⟩;simp only[];obtain⟨w3,hw3⟩:∃w3,w3=w2.alloc (.cells (AV ao ab fo fb a1 a2 gx b1 b2 c1 c2 aS nS cS true ⟨#[120,97,98,99]⟩ (.slice aB nB cB) n1 n2) 34):=⟨_,rfl⟩;have n_:=hid (show Fr [] w2 w3 by rw[hw3];exact(Fr.refl [] w2).alloc _);have lD:=hid (show w3.heap[w2.heap.size]?=some (.cells (AV ao ab fo fb a1 a2 gx b1 b2 c1 c2 aS nS cS true ⟨#[120,97,98,99]⟩ (.slice aB nB cB) n1 n2) 34 (0,0)) by rw[hw3];exact iL w2 _);have hDl:D<w2.heap.size:=by
  obtain⟨vB,Z,P,Bl,V,Ls,vU,vR,L,aim,goal,hD,_⟩:=kS.x;exact iO hD
 have WJ:=hid (Sg (kS.fr n_.out) hm (iJ (kH.obj HQ.out SP.out (by decide) (by decide)) n_.out aj) SP.out);have HCH:=hid (kH.trans (lM.FA n_.out));clear kS kH C7 hm;go_wp2_with fail;rw[<-hw3];clear hw3;refine WJ.out.mono ?_;rintro e w4 ⟨nU,nR,⟨lR,mg,mV,mX,a1',JT,Sh,b1',b2',c1',c2',Si,Sj,NU,Sk,Sl,AQ,rfl⟩,kH⟩;simp only[];have r_:=hid (HCH.out.trans kH);have oI:=hid (kH.obj lD.out (by omega) (by decide) (by decide));obtain⟨w5,nK⟩:∃w5,w5=w4.alloc (.cells (AV lR mg mV mX a1' JT Sh b1' b2' c1' c2' Si Sj NU true abc (.slice Sk Sl AQ) nU nR) 34):=⟨_,rfl⟩;have kD:=hid (show Fr [] w4 w5 by rw[nK];exact(Fr.refl [] w4).alloc _);have rK:=hid (iJ oI.out kD.out aj);have p12:(w4.alloc (.cells (AV lR mg mV mX a1' JT Sh b1' b2' c1' c2' Si Sj NU true abc (.slice Sk Sl AQ) nU nR) 34)).cell? ⟨w2.heap.size,12,none⟩=some (.bool true):=by rw[<-nK];exact iG rK.out rfl
 have p13:(w4.alloc (.cells (AV lR mg mV mX a1' JT Sh b1' b2' c1' c2' Si Sj NU true abc (.slice Sk Sl AQ) nU nR) 34)).cell? ⟨w2.heap.size,13,none⟩=some (.string ⟨#[120,97,98,99]⟩):=by rw[<-nK];exact iG rK.out rfl
 have Wq:=hid (show Below w.heap.size w w5 from⟨kD.out.os.trans (r_.out.os.trans jc.out.os),kD.out.tape.trans (r_.out.tape.trans jc.out.tape),kD.out.output.trans (r_.out.output.trans jc.out.output),aK jc.out.size (aK r_.out.size kD.out.size),fun k hk=>(kD.out.block k (aM (aM hk jc.out.size) r_.out.size) aj).trans ((r_.out.low k hk (aM hk jc.out.size)).trans (jc.out.block k hk aj))⟩);clear kH WJ;go_wp2_with fail;rw[<-nK];clear nK p12 p13;have WK:=hid (Fr.of_below (S:=[]) Wq.out);refine(WI.out w5 (HG.out.fr WK.out (fun k hk=>absurd hk aj))).mono ?_;rintro e w6 ⟨Q6,D6,hi6,rfl,hQ6,Zm,WX,jJ⟩;simp only[];have zl:=hid (WK.out.trans jJ);have C7c:=hid (Dn WX hQ6 Zm 10 0 0 false false ⟨#[]⟩ (by decide));have HQ6:=hid hQ6;have acI:=hid Zm;have H56:=hid (Wq.out.size);clear jJ WI hQ6 Zm WX;go_wp2_with fail;refine C7c.out.mono ?_;rintro e w7 ⟨mv,l7,us7,rs7,hS7,⟨ao,ab,fo,fb,a1,a2,gx,b1,b2,c1,c2,aS,nS,cS,aB,nB,cB,rfl⟩,ao7,ab7,fo7,fb7,lo7,hi7,WY,_,acJ⟩;simp only[];obtain⟨rfl,q7⟩:=zK hS7 (by decide) (by decide);have q7':l7=qI s n/\us7=[]:=by
  rcases q7 with⟨q,_⟩ | ⟨_,q1,q2⟩
  ·omega
  ·exact⟨q1,q2⟩
 obtain⟨rfl,rfl⟩:=q7';obtain⟨nt,hnt⟩:∃nt,nt=tu (qI s n):=⟨_,rfl⟩;rw[<-hnt,show([]:List Mo).length=0 from rfl];have zJ:=hid hnt;have HD7:=hid WY;have HC7:=hid acJ;clear hS7 C7c q7 hnt WY acJ;go_wp2_with fail;have hfa:=((Fr.refl [] w7).alloc (.cells (AV ao ab fo fb a1 a2 gx b1 b2 c1 c2 aS nS cS mv nt (.slice aB nB cB) 0 0) 34));have hst:St w (w7.alloc (.cells (AV ao ab fo fb a1 a2 gx b1 b2 c1 c2 aS nS cS mv nt (.slice aB nB cB) 0 0) 34)) w5.heap.size D6 Q6 w7.heap.size R (qI s n) [] [] (.slice none 0 0) []:=by
  have h1:=zl.out;have h2:=HC7.out;have h5:=H56.out;have b:Below w.heap.size w w7:=⟨h2.os.trans h1.os,h2.tape.trans h1.tape,h2.output.trans h1.output,aK h1.size h2.size,fun x hx=>(h2.low x (aM hx h5) (aM hx h1.size)).trans (h1.block x hx aj)⟩;exact⟨⟨ao7,ab7,fo7,fb7,lo7,hi7,HD7.out.fr hfa,.inr HD7.out.hw,fun g hg=>by cases hg⟩,iJ (h2.obj HQ6.out acI.out (by decide) (by decide)) hfa aj,acI.out,⟨_,iL w7 _⟩,fQ _ _ _ _,⟨hfa.os.trans b.os,hfa.tape.trans b.tape,hfa.output.trans b.output,aK b.size hfa.size,fun x hx=>(hfa.block x (aM hx b.size) aj).trans (b.block x hx)⟩,h5,b.size,HG.out.nine⟩
 exact HX.out _ _ _ _ _ _ mv _ _ _ _ _ _ _ _ _ _ _ _ _ _ _ _ _ _ _ _ _ _ _ _ _ _ _ _ _ _ _ _ _ _ _ _ _ _ _ _ _ _ _ _ _ _ _ _ _ _ _ _ _ _ _ _ _ _ _ _ _ _ _ _ _ _ _ _ _ _ _ _ _ _ _ _ _ _ _ _ _ _ _ _ _ _ _ _ _ _ _ _ _ _ _ _ _ _ _ _ _ _ _ _ _ _ _ _ _ _ _ _ _ _ _ _ _ _ _ _ _ _ _ _ _ _ _ _ _ _ _ _ _ _ _ _ _ _ _ _ _ _ _ _ _ _ _ _ _ _ _ _ _ _ _ _ _ _ _ _ _ _ _ _ _ _ _ _ _ _ _ _ _ _ _ _ _ _ _ _ _ _ _ _ _ _ _ _ _ _ _ _ _ _ _ _ _ _ _ _ _ _ _ _ _ _ _ _ _ _ _ _ _ _ _ hst ⟨ao,ab,fo,fb,a1,a2,gx,b1,b2,c1,c2,aS,nS,cS,aB,nB,cB,by rw[<-zJ.out];exact iL w7 _⟩
theorem NM (s:ByteArray)(n:Nat)(R:Int)(aV:Option Addr)(nV cV:Nat)(w:World)(hG:Gr w)(hR:-9223372036854775808<=R/\R<=9223372036854775807)(hend:Dec.Ends s n)(hc:s.size<=4096)(hz:(tu (qI s n)).size<=400)(hV:nV<=200)(VI:Scr w aV nV) :
 Calls prog 3 #[.string s,.int .i64 R,.slice aV nV cV] w fun e w'=>e=.returned (.bool true)/\Below w.heap.size w w':=by
 refine Zk s n R aV nV cV w _ hG hR hend hc hz hV ?_;intro w1 B D Q k l mv u0 u1 u3 u4 u5 u6 u8 u9 u12 u13 u14 u15 u16 u17 u18 u19 u20 u21 u22 u23 u24 u25 u26 u27 u28 u29 u30 u31 u32 u33 u34 u35 u36 u37 u38 u39 u40 u41 u42 u43 u44 u45 u46 u47 u48 u49 u50 u51 u52 u53 u54 u55 u56 u57 u58 u59 u60 u61 u62 u63 u64 u65 u66 u67 u68 u69 u70 u71 u72 u73 u74 u75 u76 u77 u78 u79 u80 u81 u82 u83 u84 u85 u86 u87 u88 u89 u90 u91 u92 u93 u94 u95 u96 u97 u98 u99 u100 u101 u102 u103 u104 u105 u106 u107 u108 u109 u110 u111 u112 u113 u114 u115 u116 u117 u118 u119 u120 u121 u122 u123 u124 u125 u126 u127 u128 u129 u130 u131 u132 u133 u134 u135 u136 u137 u138 u139 u140 u141 u142 u143 u144 u145 u146 u147 u148 u149 u150 u151 u152 u153 u154 u155 u156 u157 u158 u159 u160 u161 u162 u163 u164 u165 u166 u167 u168 u169 u170 u171 u172 u173 u174 u175 u176 u177 u178 u179 u180 u181 u182 u183 u184 u185 u186 u187 u188 u189 u190 u191 u192 u193 u194 u195 u196 u197 u198 u199 u200 u201 u202 u203 u204 u205 u206 u207 u208 u209 u210 u211 u212 u213 u214 u215 u216 u217 u218 hst hl;refine Zg (VC 11) _ w w1 B D Q k nV cV aV R l mv hV VI hst hl _ _ _ _ _ _ _ _ _ _ _ _ _ _ _ _ _ _ _ _ _ _ _ _ _ _ _ _ _ _ _ _ _ _ _ _ _ _ _ _ _ _ _ _ _ _ _ _ _ _ _ _ _ _ _ _ _ _ _ _ _ _ _ _ _ _ _ _ _ _ _ _ _ _ _ _ _ _ _ _ _ _ _ _ _ _ _ _ _ _ _ _ _ _ _ _ _ _ _ _ _ _ _ _ _ _ _ _ _ _ _ _ _ _ _ _ _ _ _ _ _ _ _ _ _ _ _ _ _ _ _ _ _ _ _ _ _ _ _ _ _ _ _ _ _ _ _ _ _ _ _ _ _ _ _ _ _ _ _ _ _ _ _ _ _ _ _ _ _ _ _ _ _ _ _ _ _ _ _ _ _ _ _ _ _ _ _ _ _ _ _ _ _ _ _ _ _ _ _ _ _ _ _ _ _ _ _ _ _ _ _ _ _ _ _ ?_;intro w2 l2 us2 aS cS sl seen mv2 v6 v12 v13 v61 v62 v63 v64 v65 v66 v67 v68 v69 v70 v71 v72 v73 v74 v75 v76 v77 v78 v79 v80 v81 v82 v83 v84 v85 v86 v87 v88 v89 v90 v91 v92 v93 v94 v95 v96 v97 v98 v99 v100 v101 v102 v103 v104 v105 v106 v107 v108 v109 v110 v111 v112 v113 v114 v115 v116 v117 v118 v119 v120 v121 v122 v123 v124 uD hsn hsl acL hl2;have hn:=hsn.n;rw[hsl]at hn;refine VD (VC 14) _ w2 k us2.length sl cS aS mv2 (tu l2) (by omega) (by omega) (by omega) hl2 _ _ _ _ _ _ _ _ _ _ _ _ _ _ _ _ _ _ _ _ _ _ _ _ _ _ _ _ _ _ _ _ _ _ _ _ _ _ _ _ _ _ _ _ _ _ _ _ _ _ _ _ _ _ _ _ _ _ _ _ _ _ _ _ _ _ _ _ _ _ _ _ _ _ _ _ _ _ _ _ _ _ _ _ _ _ _ _ _ _ _ _ _ _ _ _ _ _ _ _ _ _ _ _ _ _ _ _ _ _ _ _ _ _ _ _ _ _ _ _ _ _ _ _ _ _ _ _ _ _ _ _ _ _ _ _ _ _ _ _ _ _ _ _ _ _ _ _ _ _ _ _ _ _ _ _ _ _ _ _ _ _ _ _ _ _ _ _ _ _ _ _ _ _ _ _ _ _ _ _ _ _ _ _ _ _ _ _ _ _ _ _ _ _ _ _ _ _ _ _ _ _ _ _ _ _ _ _ _ _ _ _ _ _ _ _ _ ?_;intro v125 v126 v127 v128 v129 v130 v131 v132 v133 v134 v135 v136 v137 v138 v139 v140 v141 v142 v143 v144 v145 v146 v147 v148 v149 v150 v151;refine VF (VC 15) _ w w2 B D Q k us2.length sl cS aS R l2 us2 seen mv2 (tu l2) (by omega) (by omega) acL uD hsn rfl hsl rfl hl2 _ _ _ _ _ _ _ _ _ _ _ _ _ _ _ _ _ _ _ _ _ _ _ _ _ _ _ _ _ _ _ _ _ _ _ _ _ _ _ _ _ _ _ _ _ _ _ _ _ _ _ _ _ _ _ _ _ _ _ _ _ _ _ _ _ _ _ _ _ _ _ _ _ _ _ _ _ _ _ _ _ _ _ _ _ _ _ _ _ _ _ _ _ _ _ _ _ _ _ _ _ _ _ _ _ _ _ _ _ _ _ _ _ _ _ _ _ _ _ _ _ _ _ _ _ _ _ _ _ _ _ _ _ _ _ _ _ _ _ _ _ _ _ _ _ _ _ _ _ _ _ _ _ _ _ _ _ _ _ _ _ _ _ _ _ _ _ _ _ _ _ _ _ _ _ _ _ _ _ _ _ _ _ _ _ _ _ _ _ _ _ _ _ _ _ _ _ _ _ _ _ _ _ _ _ _ _ _ _ _ _ _ _ _ _ ?_;intro w3 l3 rs3 mv3 v6 v16 v152 v153 v154 v155 v156 v157 v158 v159 v160 v161 v162 v163 v164 v165 v166 v167 v168 v169 v170 v171 v172 v173 v174 v175 v176 af3 hr3 hrl3 hl3;refine Ze (VC 17) _ w w3 B D Q k us2.length R l3 rs3 _ seen mv3 af3 hrl3 hl3 _ _ _ _ _ _ _ _ _ _ _ _ _ _ _ _ _ _ _ _ _ _ _ _ _ _ _ _ _ _ _ _ _ _ _ _ _ _ _ _ _ _ _ _ _ _ _ _ _ _ _ _ _ _ _ _ _ _ _ _ _ _ _ _ _ _ _ _ _ _ _ _ _ _ _ _ _ _ _ _ _ _ _ _ _ _ _ _ _ _ _ _ _ _ _ _ _ _ _ _ _ _ _ _ _ _ _ _ _ _ _ _ _ _ _ _ _ _ _ _ _ _ _ _ _ _ _ _ _ _ _ _ _ _ _ _ _ _ _ _ _ _ _ _ _ _ _ _ _ _ _ _ _ _ _ _ _ _ _ _ _ _ _ _ _ _ _ _ _ _ _ _ _ _ _ _ _ _ _ _ _ _ _ _ _ _ _ _ _ _ _ _ _ _ _ _ _ _ _ _ _ _ _ _ _ _ _ _ _ _ _ _ _ _ _ _ ?_;intro w4 v17 v177 v178 v179 v180 v181 v182 v183 v184 v185 v186 v187 v188 v189 v190 v191 v192 v193 v194 v195 af4 hl4;exact Zd w w4 B D Q k us2.length R l3 [] rs3 _ seen mv3 (tu l2) (by omega) af4 hr3 (by rw[hrl3];exact hl4) _ _ _ _ _ _ _ _ _ _ _ _ _ _ _ _ _ _ _ _ _ _ _ _ _ _ _ _ _ _ _ _ _ _ _ _ _ _ _ _ _ _ _ _ _ _ _ _ _ _ _ _ _ _ _ _ _ _ _ _ _ _ _ _ _ _ _ _ _ _ _ _ _ _ _ _ _ _ _ _ _ _ _ _ _ _ _ _ _ _ _ _ _ _ _ _ _ _ _ _ _ _ _ _ _ _ _ _ _ _ _ _ _ _ _ _ _ _ _ _ _ _ _ _ _ _ _ _ _ _ _ _ _ _ _ _ _ _ _ _ _ _ _ _ _ _ _ _ _ _ _ _ _ _ _ _ _ _ _ _ _ _ _ _ _ _ _ _ _ _ _ _ _ _ _ _ _ _ _ _ _ _ _ _ _ _ _ _ _ _ _ _ _ _ _ _ _ _ _ _ _ _ _ _ _ _ _ _ _ _ _ _ _ _ _
theorem J6 (s:ByteArray)(R:Int)(v:Value)(nV:Nat)(w:World)(hG:Gr w)(hR:-9223372036854775808<=R/\R<=9223372036854775807)(hS:WE w v nV) :
 Calls prog 3 #[.string s,.int .i64 R,v] w fun e w'=>e=.returned (.bool true)/\Below w.heap.size w w':=by
 obtain⟨n,hn⟩:=runs s;by_cases h:4096<s.size\/400<(tu (qI s n)).size
 ·exact H8 s n R v w hG hn h
 ·obtain⟨a,c,rfl,hs⟩:=hS
  by_cases hV:nV<=200
  ·exact NM s n R a nV c w hG hR hn (by omega) (by omega) hV hs
  ·exact H9 s n R a nV c w hG hR hn (by omega) (by omega) (by omega)
end Go.Proofs.YtnakejhohdbfdacGreatDoor.Cls.Dc

import Derived.Test.YtcjfjflljdojlaaGreatDoorPart29
import Derived.Test.YtcjfjflljdojlaaGreatDoorPart30
set_option linter.unusedSimpArgs false
set_option linter.unusedVariables false
set_option maxHeartbeats 16000000
set_option maxRecDepth 1000000
namespace Go.Proofs.YtcjfjflljdojlaaGreatDoor
open Go.RowKit
theorem IP (l:List ak)(op fa fb fc fd p:Int)(r:List Nat)(t:List Int)(base g nt ct m c bT b1 b2:Nat)(a:o_)(w:World)
  (my:Hid (CQ w base g bT b1 b2))(HR:Hid (bj op=some r))(aP:nt<=250)(gk k:Nat)(s:gX)(wr:World)(u8 u9 u10 u11 u13 u14 u15 u16 u17 u19 u20 u21 u31 u32 u33 u34 u35 u36 u37 u38 u39 u40 u41 u42 u43 u44 u45 u46 u47 u48 u49 u50 u51 u52 u53 u54 u55 u56 u57 u58 u59 u60 u61 u62 u63 u64 u65 u66 u67 u68 u69 u70 u71 u72 u73 u74 u75 u76 u77 u78 u79 u80 u81 u82 u83 u84 u85 u86 u87 u88 u89 u90 u91 u92 u93 u94 u95 u96 u97 u98 u99 u100 u101 u102 u103 u104 u105 u106 u107 u108 u109 u110 u111 u112 u113 u114 u115 u116 u117 u118 u119 u120 u121 u122 u123 u124:Value)(hk:k+gk=4)(gz:k<4)
  (HW:Hid (nY w base g nt ct bT b1 b2 a m c ⟨op,fa,fb,fc,fd⟩ r s u10 u11 wr))(hS:Hid (aX r ⟨op,fa,fb,fc,fd⟩ ⟨t,[],[]⟩ k=some s))(hL:Hid (js nt k s))(q:Nat)(x:Int)(HQ:Hid (r[k]?.getD 0=q))(HX:Hid (dm ⟨op,fa,fb,fc,fd⟩ k=x))
  (R:Nat)(hq:q=19)(hx:x=R)(hRn:R+1<nt)(eA:bb s.types R=1)
  (J:Nat->Act->World->Prop)(K K2:Act->World->Prop)
  (hJ:zb op fa fb fc fd p r t base g nt ct m c bT b1 b2 a w J)
  (hK:∀(a':Act)(w':World),Handed J gk a' w'->K a' w') :
  gd l op fa fb fc fd p t base g nt ct m c b1 b2 a w k K K2 wr u8 u9 u10 u11 u13 u14 u15 u16 u17 u19 u20 u21 u31 u32 u33 u34 u35 u36 u37 u38 u39 u40 u41 u42 u43 u44 u45 u46 u47 u48 u49 u50 u51 u52 u53 u54 u55 u56 u57 u58 u59 u60 u61 u62 u63 u64 u65 u66 u67 u68 u69 u70 u71 u72 u73 u74 u75 u76 u77 u78 u79 u80 u81 u82 u83 u84 u85 u86 u87 u88 u89 u90 u91 u92 u93 u94 u95 u96 u97 u98 u99 u100 u101 u102 u103 u104 u105 u106 u107 u108 u109 u110 u111 u112 u113 u114 u115 u116 u117 u118 u119 u120 u121 u122 u123 u124:=by
 unfold zb at hJ;unfold gd;obtain⟨i0,hi,dE,cT,dB⟩:=aN dT;have y1:=(aa HW).roles.cell (i:=k) gz;rw[HQ.out]at y1;have y2:=(aa HW).flds.cell (i:=k) gz;rw[HX.out]at y2;have y3:=(aa HW).roles.lt;have y4:=(aa HW).flds.lt;have ml:q<=21:=by rw[<-HQ.out];exact fD HR.out k
 have WA:=af (fun W=>ex q ml W);have eN:Hid (aX r ⟨op,fa,fb,fc,fd⟩ ⟨t,[],[]⟩ (k+1)=gK q x s):=by show _=_;rw[ey hS.out,HQ.out,HX.out]
 have jA:Hid (gK q x s=none->bI l ⟨op,fa,fb,fc,fd⟩ t=none):=fun h=>fO HR.out (by rw[eN.out];exact h) (show k+1<=4 by omega)
 conv=>arg 2;whnf
 obtain⟨g',iM,jE,_,fm,aE⟩:=(aa HW).types.at (by rw[<-hL.out.1];omega);have gQ:g=g':=by injection jE with h;injection h with h;exact congrArg Addr.block h
 aj gQ
 have cR:=aE R (by have:=hL.out.1;omega)
 aj hx
 have RD:=Ji (x:=(R:Int)) (s:=s) eA;rw[show((R:Nat):Int).toNat=R from rfl]at RD;have SF:Hid (bb s.types (R+1)≠0->bI l ⟨op,fa,fb,fc,fd⟩ t=none):=fun hd=>jA.out (by rw[hq,RD,if_pos hd]);have SY:Hid (bb s.types (R+1)=0->aX r ⟨op,fa,fb,fc,fd⟩ ⟨t,[],[]⟩ (k+1)=some ⟨s.types,s.taken++[R],s.stay++[R]⟩):=fun hd=>by rw[eN.out,hq,RD,if_neg (fun h=>h hd)]
 have LN:Hid (js nt (k+1) ⟨s.types,s.taken++[R],s.stay++[R]⟩):=⟨hL.out.1,by have:=hL.out.2.1;simp;omega,by have:=hL.out.2.2;simp;omega⟩;have gV:bb s.types R=s.types[R]?.getD 0:=rfl;rw[gV]at eA;have hw:cN q=(1,false):=by aj hq;rfl
 rw[hw]at WA;have VX:((q:Int)==18)=false:=beq_eq_false_iff_ne.2 (by omega);have P7:((q:Int)==20)=false:=beq_eq_false_iff_ne.2 (by omega);have Ry:((q:Int)==19)=true:=by simp;omega
 have Yn:Hid ((aH s.taken).length<=1048576):=by show _<=_;rw[ba];have:=hL.out.2.1;omega
 clear aE jE gV jA eN RD hq;generalize s.types[R]?.getD 0=ty at *;have tb:(ty != 1)=false:=by simpa using eA
 aj eA
 clear hw;have uY:Hid ((aH s.stay).length<=1048576):=by show _<=_;rw[ba];have:=hL.out.2.2;omega
 have NC:=(aa HW).size;go_wp2_with fail
 refine(aa WA _).mono ?_;rintro e w3 ⟨rfl,rfl⟩;go_wp2_with (first
  | (at_builtin;refine wpList_append_lies _ rfl _ _ 70 rfl bT 3 i0 (i_ 0) 1 8 Tryz.underlying70 hi dE cT dB rfl (by decide) _ _ _ rfl ((aa HW).stay.alloc _) (a_ w3.heap.size 0) 1 1 [i_ (R:Int)] rfl rfl ?c1 ?c2 (by decide) ?c3 ?c4 ?c5 (w3.heap.size+1) (by simp) ?_)
  | go_in)
 all_goals try (case c1=>
  intro j u hj
  match j,hj with
  | 0,hj=>simp at hj;aj hj;simp[Addr.add,go_sem])
 all_goals try (case c2=>first | rfl | (intro u hu;simp at hu;aj hu;rfl))
 all_goals try (case c3=>have:=uY.out;unfold maxLen;omega)
 all_goals try (case c4=>have:=uY.out;omega)
 all_goals try (case c5=>first | omega | (simp;omega))
 intro g3 cap3 w4 hown3 hgrow3 hat3 hlt3;have O3:Hid (ar w4 bT (.slice (some (a_ g3 0)) ((aH s.stay).length+1) cap3) (aH (s.stay++[R]))):=by show ar _ _ _ _;rw[f9];exact ar.push hown3
 have jm:=af ((aa HW).hold (aa my) (x:=R) hgrow3 (aa O3) (by simpa using hat3));have z1:=(aa jm).roles.cell (i:=k) gz;rw[HQ.out]at z1;have z3:=(aa jm).roles.lt;clear hown3 hgrow3 hat3 O3 HW y1 y2 y3 y4 cR fm;go_wp2_with fail
 go_loopg [21] 0 (fun gg i wr'=>gg=0/\i=i_ 1/\nY w base g nt ct bT b1 b2 a m c ⟨op,fa,fb,fc,fd⟩ r ⟨s.types,s.taken,s.stay++[R]⟩ u10 (.slice (some (a_ g3 0)) ((aH s.stay).length+1) cap3) wr')
 case atStart=>exact⟨rfl,rfl,aa jm⟩
 case round=>
  clear jm z1 z3;obtain⟨_,rfl,mG⟩:=hrel;have y1:=mG.roles.cell (i:=k) gz;rw[HQ.out]at y1;have y3:=mG.roles.lt;obtain⟨g',iM,jE,_,fm,aE⟩:=mG.types.at (by rw[show(gX.mk s.types s.taken (s.stay++[R])).types.length=nt from hL.out.1.symm];omega);have gQ:g'=g:=by injection jE with h;injection h with h;exact(congrArg Addr.block h).symm
  have cD:=aE (R+1) (by show R+1<s.types.length;have:=hL.out.1;omega);rw[gQ]at cD fm;change wr.cell? (a_ g (R+1))=some (i_ (s.types[R+1]?.getD 0))at cD;have gV:Hid (bb s.types (R+1)=s.types[R+1]?.getD 0):=rfl;have hbT2:=mG.size;have jm:=af mG;clear jE aE gQ mG;generalize s.types[R+1]?.getD 0=tz at *;by_cases htz:tz=0
  ·have SN:Hid (aX r ⟨op,fa,fb,fc,fd⟩ ⟨t,[],[]⟩ (k+1)=some ⟨s.types,s.taken++[R],s.stay++[R]⟩):=SY.out (by rw[gV.out];exact htz)
   aj htz
   clear gV SF SY;go_wp2_with (first
    | (at_builtin;refine wpList_append_lies _ rfl _ _ 70 rfl bT 3 i0 (i_ 0) 1 8 Tryz.underlying70 hi dE cT dB rfl (by decide) _ _ _ rfl ((aa jm).taken.alloc _) (a_ wr.heap.size 0) 1 1 [i_ (R:Int)] rfl rfl ?d1 ?d2 (by decide) ?d3 ?d4 ?d5 (wr.heap.size+1) (by simp) ?_)
    | go_in)
   all_goals try (case d1=>
    intro j u hj
    match j,hj with
    | 0,hj=>simp at hj;aj hj;simp[Addr.add,go_sem])
   all_goals try (case d2=>first | rfl | (intro u hu;simp at hu;aj hu;rfl))
   all_goals try (case d3=>have:=Yn.out;unfold maxLen;omega)
   all_goals try (case d4=>have:=Yn.out;omega)
   all_goals try (case d5=>first | omega | (simp;omega))
   intro g5 cap5 w5 hown5 hgrow5 hat5 hlt5;have O5:Hid (ar w5 bT (.slice (some (a_ g5 0)) ((aH s.taken).length+1) cap5) (aH (s.taken++[R]))):=by show ar _ _ _ _;rw[f9];exact ar.push hown5
   have Lw:=af ((aa jm).take (aa my) (x:=R) hgrow5 (aa O5) (by simpa using hat5));clear hown5 hgrow5 hat5 O5 jm;go_wp2_with fail
   go_roundg (4-(k+1))
   case measure=>omega
   case rel=>exact⟨k+1,⟨s.types,s.taken++[R],s.stay++[R]⟩,by omega,by go_num,aa Lw,SN,LN⟩
  ·have RR:Hid (bI l ⟨op,fa,fb,fc,fd⟩ t=none):=SF.out (by rw[gV.out];exact htz);have tzb:(tz != 0)=true:=by simpa using htz
   clear gV htz SF SY;go_wp2_with fail
   go_ret2
   exact ui RR.out (aa jm).old
def un (l:List ak)(n:aA)(nt:Nat):Prop:=n.op=11->0<=n.fb/\n.fb<l.length/\∀ u,u∈(am l n.fb.toNat).ups->u.1=true->0<=u.2/\u.2<nt
theorem rU {q:Nat}(h:(cN q).1≠0):q=2\/q=3\/q=4\/q=5\/q=6\/q=18\/q=19\/q=20:=by
 unfold cN at h;by_cases a2:q=2
 ·simp[a2]
 by_cases a3:q=3
 ·simp[a3]
 by_cases a4:q=4\/q=18\/q=19\/q=20
 ·rcases a4 with a | a | a | a<;>simp[a]
 by_cases a5:q=5
 ·simp[a5]
 by_cases a6:q=6
 ·simp[a6]
 rw[if_neg a2,if_neg a3,if_neg a4,if_neg a5,if_neg a6]at h;exact absurd rfl h
theorem Dz (l:List ak)(op fa fb fc fd:Int)(p:Int)(r:List Nat)(t:List Int)(base g nt ct c:Nat)(S:Nat->Prop)(a:o_)(w:World)(hs:ao w S a l)(hB:∀ b,S b->b<base)(hr:bj op=some r)(hf:mX r ⟨op,fa,fb,fc,fd⟩ nt)(hu:un l ⟨op,fa,fb,fc,fd⟩ nt)(sT:∀ x,x∈l->x.ups.length<=1000000)(py:l.length<=1000000)
    (bc:ar w base (.slice (some (a_ g 0)) nt ct) t)(BA:nt=t.length)(aP:nt<=250)(h1:base<=g)(h2:g<w.heap.size) :
    c_ 58 #[.agg #[.slice a l.length c],i_ p,.agg #[i_ op,i_ fa,i_ fb,i_ fc,i_ fd],.slice (some (a_ g 0)) nt ct] w (ye (bI l ⟨op,fa,fb,fc,fd⟩ t) base g nt ct w):=by
  have hA:∀ o1 o2,b_ w ((w.alloc o1).alloc o2):=fun o1 o2=>(r_.alloc n_ o1).alloc (by simp) o2;have HR:=af hr;have HF:=af hf;have Pw:=af hu;have qH:=af hs;have gW:=af hB;have Li:=af sT;obtain⟨m,hm⟩:∃ m,l.length=m:=⟨_,rfl⟩;have HM:=af hm;rw[hm]at py;rw[hm];have RO:=af (fun W=>il op W);rw[HR.out]at RO;have HO:=af bc;have TY:=af BA;clear hr hf bc hu hs hB sT hm BA;go_enter Tryz.func58,Tryz.ntmps58;go_wp2_with fail
  refine(aa RO _).mono ?_;rintro e w1 hF;obtain⟨b1,rfl,au,sw,nH⟩:=lk hF;have e2:∀ o1 o2,((w.alloc o1).alloc o2).heap.size=w.heap.size+2:=fun _ _=>by simp
  rw[e2]at au nH;obtain⟨cU,fJ⟩:=cz (W:=(w.alloc (.cells #[.slice a m c] 28)).alloc (.cells #[i_ op,i_ fa,i_ fb,i_ fc,i_ fd] 51)) (w1:=w1) (by rw[e2];exact nH);rw[e2]at cU;have j0:w1.cell? (a_ (w.heap.size+1) 0)=some (i_ op):=by rw[cU _ _ (by omega)];simp[go_sem]
  have j1:w1.cell? (a_ (w.heap.size+1) 1)=some (i_ fa):=by rw[cU _ _ (by omega)];simp[go_sem]
  have j2:w1.cell? (a_ (w.heap.size+1) 2)=some (i_ fb):=by rw[cU _ _ (by omega)];simp[go_sem]
  have j3:w1.cell? (a_ (w.heap.size+1) 3)=some (i_ fc):=by rw[cU _ _ (by omega)];simp[go_sem]
  have j4:w1.cell? (a_ (w.heap.size+1) 4)=some (i_ fd):=by rw[cU _ _ (by omega)];simp[go_sem]
  have jc:w1.cell? (a_ w.heap.size 0)=some (.slice a m c):=by rw[cU _ _ (by omega)];simp[go_sem]
  have jf:w.heap.size+1<w1.heap.size:=by have:=nH.size;rw[e2]at this;omega
  have dM:Hid (b_ w w1):=(hA _ _).trans (nH.mono (by omega));have rH:=af sw;clear hF sw nH cU fJ RO e2;go_wp2_with fail
  refine(lQ op fa fb fc fd w1).mono ?_;rintro e w2 ⟨b2,rfl,bo,qE,mx⟩;have sr:=mx.size;obtain⟨fe,wd⟩:=cz mx;have KM:=(aa rH).lt;have abA:=qE.lt;obtain⟨bT,Xc⟩:∃ bT,bT=w2.heap.size:=⟨_,rfl⟩;have my:Hid (CQ w base g bT b1 b2):=⟨h1,h2,au,by omega,by omega,by omega⟩;have OR:Hid (w.heap.size<=bT):=by show _<=_;omega
  have W0:Hid (nY w base g nt ct bT b1 b2 a m c ⟨op,fa,fb,fc,fd⟩ r ⟨t,[],[]⟩ (.slice none 0 0) (.slice none 0 0) w2):=
    ⟨((aa dM).trans (mx.mono (aa dM).size)).mono (by omega),by omega,(fe _ _ (by omega)).trans jc,
     ⟨(fe _ _ (by omega)).trans j0,(fe _ _ (by omega)).trans j1,(fe _ _ (by omega)).trans j2,(fe _ _ (by omega)).trans j3,(fe _ _ (by omega)).trans j4⟩,
     (aa rH).of_block (mx.block _ KM),qE,
     (aa HO).below ((aa dM).trans (mx.mono (aa dM).size)),World.ownsRow_nil _ _ _ _,World.ownsRow_nil _ _ _ _,.inl rfl⟩
  clear mx qE fe wd sr Xc j0 j1 j2 j3 j4 jc rH dM HO abA KM;go_wp2_with fail
  go_loopg [10,11,30] 4 (fun gg tv sv i wr=>OZ w base g nt ct bT b1 b2 a m c ⟨op,fa,fb,fc,fd⟩ r t gg tv sv i wr)
  case atStart=>exact⟨0,⟨t,[],[]⟩,by omega,rfl,aa W0,rfl,⟨TY.out,by simp,by simp⟩⟩
  case round=>
    rename_i J0 K0 hJ0 hK0;clear W0;obtain⟨k,s,hk,rfl,hW,hS,hL⟩:=hrel;have HW:=af hW;by_cases gz:k<4
    · clear hW;obtain⟨x,hx⟩:∃ x,dm ⟨op,fa,fb,fc,fd⟩ k=x:=⟨_,rfl⟩;obtain⟨q,hq⟩:∃ q,r[k]?.getD 0=q:=⟨_,rfl⟩;have HQ:=af hq;have HX:=af hx;have FF:=aa HF k gz;rw[hq,hx]at FF;clear hq hx;by_cases hz:(cN q).1=0
      · exact Mq l op fa fb fc fd p r t base g nt ct m c bT b1 b2 a w my HR aP gk k s wr u8 u9 u10 u11 u13 u14 u15 u16 u17 u19 u20 u21 u31 u32 u33 u34 u35 u36 u37 u38 u39 u40 u41 u42 u43 u44 u45 u46 u47 u48 u49 u50 u51 u52 u53 u54 u55 u56 u57 u58 u59 u60 u61 u62 u63 u64 u65 u66 u67 u68 u69 u70 u71 u72 u73 u74 u75 u76 u77 u78 u79 u80 u81 u82 u83 u84 u85 u86 u87 u88 u89 u90 u91 u92 u93 u94 u95 u96 u97 u98 u99 u100 u101 u102 u103 u104 u105 u106 u107 u108 u109 u110 u111 u112 u113 u114 u115 u116 u117 u118 u119 u120 u121 u122 u123 u124 hk gz HW hS hL q x HQ HX hz J0 K0 _ hJ0 hK0
      rcases rU hz with c2 | c2 | c2 | c2 | c2 | c2 | c2 | c2
      · obtain⟨oy,aO⟩:=FF.1 (by simp[c2]);by_cases hneg:x<0
        · obtain⟨R,hR⟩:∃ R:Nat,(-1:Int)-x=R:=⟨(-1-x).toNat,by omega⟩;by_cases eA:bb s.types R=1
          · exact zP l op fa fb fc fd p r t base g nt ct m c bT b1 b2 a w my HR aP gk k s wr u8 u9 u10 u11 u13 u14 u15 u16 u17 u19 u20 u21 u31 u32 u33 u34 u35 u36 u37 u38 u39 u40 u41 u42 u43 u44 u45 u46 u47 u48 u49 u50 u51 u52 u53 u54 u55 u56 u57 u58 u59 u60 u61 u62 u63 u64 u65 u66 u67 u68 u69 u70 u71 u72 u73 u74 u75 u76 u77 u78 u79 u80 u81 u82 u83 u84 u85 u86 u87 u88 u89 u90 u91 u92 u93 u94 u95 u96 u97 u98 u99 u100 u101 u102 u103 u104 u105 u106 u107 u108 u109 u110 u111 u112 u113 u114 u115 u116 u117 u118 u119 u120 u121 u122 u123 u124 hk gz HW hS hL q x HQ HX R 1 (by simp[c2]) hneg hR (by omega) eA J0 K0 _ hJ0 hK0
          · exact rZ l op fa fb fc fd p r t base g nt ct m c bT b1 b2 a w my HR aP gk k s wr u8 u9 u10 u11 u13 u14 u15 u16 u17 u19 u20 u21 u31 u32 u33 u34 u35 u36 u37 u38 u39 u40 u41 u42 u43 u44 u45 u46 u47 u48 u49 u50 u51 u52 u53 u54 u55 u56 u57 u58 u59 u60 u61 u62 u63 u64 u65 u66 u67 u68 u69 u70 u71 u72 u73 u74 u75 u76 u77 u78 u79 u80 u81 u82 u83 u84 u85 u86 u87 u88 u89 u90 u91 u92 u93 u94 u95 u96 u97 u98 u99 u100 u101 u102 u103 u104 u105 u106 u107 u108 u109 u110 u111 u112 u113 u114 u115 u116 u117 u118 u119 u120 u121 u122 u123 u124 hk gz HW hS hL q x HQ HX R 1 (by aj c2;rfl) (by decide) hneg hR (by omega) eA J0 K0 _ hJ0 hK0
        · obtain⟨R,hR⟩:∃ R:Nat,x=R:=⟨x.toNat,by omega⟩;by_cases eA:bb s.types R=1
          · exact Ak l op fa fb fc fd p r t base g nt ct m c bT b1 b2 a w my HR aP gk k s wr u8 u9 u10 u11 u13 u14 u15 u16 u17 u19 u20 u21 u31 u32 u33 u34 u35 u36 u37 u38 u39 u40 u41 u42 u43 u44 u45 u46 u47 u48 u49 u50 u51 u52 u53 u54 u55 u56 u57 u58 u59 u60 u61 u62 u63 u64 u65 u66 u67 u68 u69 u70 u71 u72 u73 u74 u75 u76 u77 u78 u79 u80 u81 u82 u83 u84 u85 u86 u87 u88 u89 u90 u91 u92 u93 u94 u95 u96 u97 u98 u99 u100 u101 u102 u103 u104 u105 u106 u107 u108 u109 u110 u111 u112 u113 u114 u115 u116 u117 u118 u119 u120 u121 u122 u123 u124 hk gz HW hS hL q x HQ HX R 1 (by simp[c2]) hR (by omega) eA J0 K0 _ hJ0 hK0
          · exact fM l op fa fb fc fd p r t base g nt ct m c bT b1 b2 a w my HR aP gk k s wr u8 u9 u10 u11 u13 u14 u15 u16 u17 u19 u20 u21 u31 u32 u33 u34 u35 u36 u37 u38 u39 u40 u41 u42 u43 u44 u45 u46 u47 u48 u49 u50 u51 u52 u53 u54 u55 u56 u57 u58 u59 u60 u61 u62 u63 u64 u65 u66 u67 u68 u69 u70 u71 u72 u73 u74 u75 u76 u77 u78 u79 u80 u81 u82 u83 u84 u85 u86 u87 u88 u89 u90 u91 u92 u93 u94 u95 u96 u97 u98 u99 u100 u101 u102 u103 u104 u105 u106 u107 u108 u109 u110 u111 u112 u113 u114 u115 u116 u117 u118 u119 u120 u121 u122 u123 u124 hk gz HW hS hL q x HQ HX R 1 true (by aj c2;rfl) (by decide) hR (by omega) eA J0 K0 _ hJ0 hK0
      · obtain⟨oy,aO⟩:=FF.1 (by simp[c2]);by_cases hneg:x<0
        · obtain⟨R,hR⟩:∃ R:Nat,(-1:Int)-x=R:=⟨(-1-x).toNat,by omega⟩;by_cases eA:bb s.types R=3
          · exact zP l op fa fb fc fd p r t base g nt ct m c bT b1 b2 a w my HR aP gk k s wr u8 u9 u10 u11 u13 u14 u15 u16 u17 u19 u20 u21 u31 u32 u33 u34 u35 u36 u37 u38 u39 u40 u41 u42 u43 u44 u45 u46 u47 u48 u49 u50 u51 u52 u53 u54 u55 u56 u57 u58 u59 u60 u61 u62 u63 u64 u65 u66 u67 u68 u69 u70 u71 u72 u73 u74 u75 u76 u77 u78 u79 u80 u81 u82 u83 u84 u85 u86 u87 u88 u89 u90 u91 u92 u93 u94 u95 u96 u97 u98 u99 u100 u101 u102 u103 u104 u105 u106 u107 u108 u109 u110 u111 u112 u113 u114 u115 u116 u117 u118 u119 u120 u121 u122 u123 u124 hk gz HW hS hL q x HQ HX R 3 (by simp[c2]) hneg hR (by omega) eA J0 K0 _ hJ0 hK0
          · exact rZ l op fa fb fc fd p r t base g nt ct m c bT b1 b2 a w my HR aP gk k s wr u8 u9 u10 u11 u13 u14 u15 u16 u17 u19 u20 u21 u31 u32 u33 u34 u35 u36 u37 u38 u39 u40 u41 u42 u43 u44 u45 u46 u47 u48 u49 u50 u51 u52 u53 u54 u55 u56 u57 u58 u59 u60 u61 u62 u63 u64 u65 u66 u67 u68 u69 u70 u71 u72 u73 u74 u75 u76 u77 u78 u79 u80 u81 u82 u83 u84 u85 u86 u87 u88 u89 u90 u91 u92 u93 u94 u95 u96 u97 u98 u99 u100 u101 u102 u103 u104 u105 u106 u107 u108 u109 u110 u111 u112 u113 u114 u115 u116 u117 u118 u119 u120 u121 u122 u123 u124 hk gz HW hS hL q x HQ HX R 3 (by aj c2;rfl) (by decide) hneg hR (by omega) eA J0 K0 _ hJ0 hK0
        · obtain⟨R,hR⟩:∃ R:Nat,x=R:=⟨x.toNat,by omega⟩;by_cases eA:bb s.types R=3
          · exact Ak l op fa fb fc fd p r t base g nt ct m c bT b1 b2 a w my HR aP gk k s wr u8 u9 u10 u11 u13 u14 u15 u16 u17 u19 u20 u21 u31 u32 u33 u34 u35 u36 u37 u38 u39 u40 u41 u42 u43 u44 u45 u46 u47 u48 u49 u50 u51 u52 u53 u54 u55 u56 u57 u58 u59 u60 u61 u62 u63 u64 u65 u66 u67 u68 u69 u70 u71 u72 u73 u74 u75 u76 u77 u78 u79 u80 u81 u82 u83 u84 u85 u86 u87 u88 u89 u90 u91 u92 u93 u94 u95 u96 u97 u98 u99 u100 u101 u102 u103 u104 u105 u106 u107 u108 u109 u110 u111 u112 u113 u114 u115 u116 u117 u118 u119 u120 u121 u122 u123 u124 hk gz HW hS hL q x HQ HX R 3 (by simp[c2]) hR (by omega) eA J0 K0 _ hJ0 hK0
          · exact fM l op fa fb fc fd p r t base g nt ct m c bT b1 b2 a w my HR aP gk k s wr u8 u9 u10 u11 u13 u14 u15 u16 u17 u19 u20 u21 u31 u32 u33 u34 u35 u36 u37 u38 u39 u40 u41 u42 u43 u44 u45 u46 u47 u48 u49 u50 u51 u52 u53 u54 u55 u56 u57 u58 u59 u60 u61 u62 u63 u64 u65 u66 u67 u68 u69 u70 u71 u72 u73 u74 u75 u76 u77 u78 u79 u80 u81 u82 u83 u84 u85 u86 u87 u88 u89 u90 u91 u92 u93 u94 u95 u96 u97 u98 u99 u100 u101 u102 u103 u104 u105 u106 u107 u108 u109 u110 u111 u112 u113 u114 u115 u116 u117 u118 u119 u120 u121 u122 u123 u124 hk gz HW hS hL q x HQ HX R 3 true (by aj c2;rfl) (by decide) hR (by omega) eA J0 K0 _ hJ0 hK0
      · obtain⟨oy,aO⟩:=FF.2.1 (by simp[c2]);obtain⟨R,hR⟩:∃ R:Nat,x=R:=⟨x.toNat,by omega⟩;by_cases eA:bb s.types R=1
        · exact t9 l op fa fb fc fd p r t base g nt ct m c bT b1 b2 a w my HR aP gk k s wr u8 u9 u10 u11 u13 u14 u15 u16 u17 u19 u20 u21 u31 u32 u33 u34 u35 u36 u37 u38 u39 u40 u41 u42 u43 u44 u45 u46 u47 u48 u49 u50 u51 u52 u53 u54 u55 u56 u57 u58 u59 u60 u61 u62 u63 u64 u65 u66 u67 u68 u69 u70 u71 u72 u73 u74 u75 u76 u77 u78 u79 u80 u81 u82 u83 u84 u85 u86 u87 u88 u89 u90 u91 u92 u93 u94 u95 u96 u97 u98 u99 u100 u101 u102 u103 u104 u105 u106 u107 u108 u109 u110 u111 u112 u113 u114 u115 u116 u117 u118 u119 u120 u121 u122 u123 u124 hk gz HW hS hL q x HQ HX R 1 (by simp[c2]) hR (by omega) eA J0 K0 _ hJ0 hK0
        · exact fM l op fa fb fc fd p r t base g nt ct m c bT b1 b2 a w my HR aP gk k s wr u8 u9 u10 u11 u13 u14 u15 u16 u17 u19 u20 u21 u31 u32 u33 u34 u35 u36 u37 u38 u39 u40 u41 u42 u43 u44 u45 u46 u47 u48 u49 u50 u51 u52 u53 u54 u55 u56 u57 u58 u59 u60 u61 u62 u63 u64 u65 u66 u67 u68 u69 u70 u71 u72 u73 u74 u75 u76 u77 u78 u79 u80 u81 u82 u83 u84 u85 u86 u87 u88 u89 u90 u91 u92 u93 u94 u95 u96 u97 u98 u99 u100 u101 u102 u103 u104 u105 u106 u107 u108 u109 u110 u111 u112 u113 u114 u115 u116 u117 u118 u119 u120 u121 u122 u123 u124 hk gz HW hS hL q x HQ HX R 1 false (by aj c2;rfl) (by decide) hR (by omega) eA J0 K0 _ hJ0 hK0
      · obtain⟨oy,aO⟩:=FF.2.1 (by simp[c2]);obtain⟨R,hR⟩:∃ R:Nat,x=R:=⟨x.toNat,by omega⟩;by_cases eA:bb s.types R=2
        · exact t9 l op fa fb fc fd p r t base g nt ct m c bT b1 b2 a w my HR aP gk k s wr u8 u9 u10 u11 u13 u14 u15 u16 u17 u19 u20 u21 u31 u32 u33 u34 u35 u36 u37 u38 u39 u40 u41 u42 u43 u44 u45 u46 u47 u48 u49 u50 u51 u52 u53 u54 u55 u56 u57 u58 u59 u60 u61 u62 u63 u64 u65 u66 u67 u68 u69 u70 u71 u72 u73 u74 u75 u76 u77 u78 u79 u80 u81 u82 u83 u84 u85 u86 u87 u88 u89 u90 u91 u92 u93 u94 u95 u96 u97 u98 u99 u100 u101 u102 u103 u104 u105 u106 u107 u108 u109 u110 u111 u112 u113 u114 u115 u116 u117 u118 u119 u120 u121 u122 u123 u124 hk gz HW hS hL q x HQ HX R 2 (by simp[c2]) hR (by omega) eA J0 K0 _ hJ0 hK0
        · exact fM l op fa fb fc fd p r t base g nt ct m c bT b1 b2 a w my HR aP gk k s wr u8 u9 u10 u11 u13 u14 u15 u16 u17 u19 u20 u21 u31 u32 u33 u34 u35 u36 u37 u38 u39 u40 u41 u42 u43 u44 u45 u46 u47 u48 u49 u50 u51 u52 u53 u54 u55 u56 u57 u58 u59 u60 u61 u62 u63 u64 u65 u66 u67 u68 u69 u70 u71 u72 u73 u74 u75 u76 u77 u78 u79 u80 u81 u82 u83 u84 u85 u86 u87 u88 u89 u90 u91 u92 u93 u94 u95 u96 u97 u98 u99 u100 u101 u102 u103 u104 u105 u106 u107 u108 u109 u110 u111 u112 u113 u114 u115 u116 u117 u118 u119 u120 u121 u122 u123 u124 hk gz HW hS hL q x HQ HX R 2 false (by aj c2;rfl) (by decide) hR (by omega) eA J0 K0 _ hJ0 hK0
      · obtain⟨oy,aO⟩:=FF.2.1 (by simp[c2]);obtain⟨R,hR⟩:∃ R:Nat,x=R:=⟨x.toNat,by omega⟩;by_cases eA:bb s.types R=3
        · exact t9 l op fa fb fc fd p r t base g nt ct m c bT b1 b2 a w my HR aP gk k s wr u8 u9 u10 u11 u13 u14 u15 u16 u17 u19 u20 u21 u31 u32 u33 u34 u35 u36 u37 u38 u39 u40 u41 u42 u43 u44 u45 u46 u47 u48 u49 u50 u51 u52 u53 u54 u55 u56 u57 u58 u59 u60 u61 u62 u63 u64 u65 u66 u67 u68 u69 u70 u71 u72 u73 u74 u75 u76 u77 u78 u79 u80 u81 u82 u83 u84 u85 u86 u87 u88 u89 u90 u91 u92 u93 u94 u95 u96 u97 u98 u99 u100 u101 u102 u103 u104 u105 u106 u107 u108 u109 u110 u111 u112 u113 u114 u115 u116 u117 u118 u119 u120 u121 u122 u123 u124 hk gz HW hS hL q x HQ HX R 3 (by simp[c2]) hR (by omega) eA J0 K0 _ hJ0 hK0
        · exact fM l op fa fb fc fd p r t base g nt ct m c bT b1 b2 a w my HR aP gk k s wr u8 u9 u10 u11 u13 u14 u15 u16 u17 u19 u20 u21 u31 u32 u33 u34 u35 u36 u37 u38 u39 u40 u41 u42 u43 u44 u45 u46 u47 u48 u49 u50 u51 u52 u53 u54 u55 u56 u57 u58 u59 u60 u61 u62 u63 u64 u65 u66 u67 u68 u69 u70 u71 u72 u73 u74 u75 u76 u77 u78 u79 u80 u81 u82 u83 u84 u85 u86 u87 u88 u89 u90 u91 u92 u93 u94 u95 u96 u97 u98 u99 u100 u101 u102 u103 u104 u105 u106 u107 u108 u109 u110 u111 u112 u113 u114 u115 u116 u117 u118 u119 u120 u121 u122 u123 u124 hk gz HW hS hL q x HQ HX R 3 false (by aj c2;rfl) (by decide) hR (by omega) eA J0 K0 _ hJ0 hK0
      · obtain⟨oy,aO⟩:=FF.2.2.1 (by simp[c2]);obtain⟨R,hR⟩:∃ R:Nat,x=R:=⟨x.toNat,by omega⟩;by_cases eA:bb s.types R=1
        · exact JK l op fa fb fc fd p r t base g nt ct m c bT b1 b2 a w my HR aP gk k s wr u8 u9 u10 u11 u13 u14 u15 u16 u17 u19 u20 u21 u31 u32 u33 u34 u35 u36 u37 u38 u39 u40 u41 u42 u43 u44 u45 u46 u47 u48 u49 u50 u51 u52 u53 u54 u55 u56 u57 u58 u59 u60 u61 u62 u63 u64 u65 u66 u67 u68 u69 u70 u71 u72 u73 u74 u75 u76 u77 u78 u79 u80 u81 u82 u83 u84 u85 u86 u87 u88 u89 u90 u91 u92 u93 u94 u95 u96 u97 u98 u99 u100 u101 u102 u103 u104 u105 u106 u107 u108 u109 u110 u111 u112 u113 u114 u115 u116 u117 u118 u119 u120 u121 u122 u123 u124 hk gz HW hS hL q x HQ HX R 1 (by simp[c2]) hR (by omega) eA J0 K0 _ hJ0 hK0
        · exact fM l op fa fb fc fd p r t base g nt ct m c bT b1 b2 a w my HR aP gk k s wr u8 u9 u10 u11 u13 u14 u15 u16 u17 u19 u20 u21 u31 u32 u33 u34 u35 u36 u37 u38 u39 u40 u41 u42 u43 u44 u45 u46 u47 u48 u49 u50 u51 u52 u53 u54 u55 u56 u57 u58 u59 u60 u61 u62 u63 u64 u65 u66 u67 u68 u69 u70 u71 u72 u73 u74 u75 u76 u77 u78 u79 u80 u81 u82 u83 u84 u85 u86 u87 u88 u89 u90 u91 u92 u93 u94 u95 u96 u97 u98 u99 u100 u101 u102 u103 u104 u105 u106 u107 u108 u109 u110 u111 u112 u113 u114 u115 u116 u117 u118 u119 u120 u121 u122 u123 u124 hk gz HW hS hL q x HQ HX R 1 false (by aj c2;rfl) (by decide) hR (by omega) eA J0 K0 _ hJ0 hK0
      · obtain⟨oy,aO⟩:=FF.2.2.2 (by simp[c2]);obtain⟨R,hR⟩:∃ R:Nat,x=R:=⟨x.toNat,by omega⟩;by_cases eA:bb s.types R=1
        · exact IP l op fa fb fc fd p r t base g nt ct m c bT b1 b2 a w my HR aP gk k s wr u8 u9 u10 u11 u13 u14 u15 u16 u17 u19 u20 u21 u31 u32 u33 u34 u35 u36 u37 u38 u39 u40 u41 u42 u43 u44 u45 u46 u47 u48 u49 u50 u51 u52 u53 u54 u55 u56 u57 u58 u59 u60 u61 u62 u63 u64 u65 u66 u67 u68 u69 u70 u71 u72 u73 u74 u75 u76 u77 u78 u79 u80 u81 u82 u83 u84 u85 u86 u87 u88 u89 u90 u91 u92 u93 u94 u95 u96 u97 u98 u99 u100 u101 u102 u103 u104 u105 u106 u107 u108 u109 u110 u111 u112 u113 u114 u115 u116 u117 u118 u119 u120 u121 u122 u123 u124 hk gz HW hS hL q x HQ HX R c2 hR (by omega) eA J0 K0 _ hJ0 hK0
        · exact fM l op fa fb fc fd p r t base g nt ct m c bT b1 b2 a w my HR aP gk k s wr u8 u9 u10 u11 u13 u14 u15 u16 u17 u19 u20 u21 u31 u32 u33 u34 u35 u36 u37 u38 u39 u40 u41 u42 u43 u44 u45 u46 u47 u48 u49 u50 u51 u52 u53 u54 u55 u56 u57 u58 u59 u60 u61 u62 u63 u64 u65 u66 u67 u68 u69 u70 u71 u72 u73 u74 u75 u76 u77 u78 u79 u80 u81 u82 u83 u84 u85 u86 u87 u88 u89 u90 u91 u92 u93 u94 u95 u96 u97 u98 u99 u100 u101 u102 u103 u104 u105 u106 u107 u108 u109 u110 u111 u112 u113 u114 u115 u116 u117 u118 u119 u120 u121 u122 u123 u124 hk gz HW hS hL q x HQ HX R 1 false (by aj c2;rfl) (by decide) hR (by omega) eA J0 K0 _ hJ0 hK0
      · obtain⟨oy,aO⟩:=FF.2.2.2 (by simp[c2]);obtain⟨R,hR⟩:∃ R:Nat,x=R:=⟨x.toNat,by omega⟩;by_cases eA:bb s.types R=1
        · exact Nm l op fa fb fc fd p r t base g nt ct m c bT b1 b2 a w my HR aP gk k s wr u8 u9 u10 u11 u13 u14 u15 u16 u17 u19 u20 u21 u31 u32 u33 u34 u35 u36 u37 u38 u39 u40 u41 u42 u43 u44 u45 u46 u47 u48 u49 u50 u51 u52 u53 u54 u55 u56 u57 u58 u59 u60 u61 u62 u63 u64 u65 u66 u67 u68 u69 u70 u71 u72 u73 u74 u75 u76 u77 u78 u79 u80 u81 u82 u83 u84 u85 u86 u87 u88 u89 u90 u91 u92 u93 u94 u95 u96 u97 u98 u99 u100 u101 u102 u103 u104 u105 u106 u107 u108 u109 u110 u111 u112 u113 u114 u115 u116 u117 u118 u119 u120 u121 u122 u123 u124 hk gz HW hS hL q x HQ HX R 1 (by simp[c2]) hR (by omega) eA J0 K0 _ hJ0 hK0
        · exact fM l op fa fb fc fd p r t base g nt ct m c bT b1 b2 a w my HR aP gk k s wr u8 u9 u10 u11 u13 u14 u15 u16 u17 u19 u20 u21 u31 u32 u33 u34 u35 u36 u37 u38 u39 u40 u41 u42 u43 u44 u45 u46 u47 u48 u49 u50 u51 u52 u53 u54 u55 u56 u57 u58 u59 u60 u61 u62 u63 u64 u65 u66 u67 u68 u69 u70 u71 u72 u73 u74 u75 u76 u77 u78 u79 u80 u81 u82 u83 u84 u85 u86 u87 u88 u89 u90 u91 u92 u93 u94 u95 u96 u97 u98 u99 u100 u101 u102 u103 u104 u105 u106 u107 u108 u109 u110 u111 u112 u113 u114 u115 u116 u117 u118 u119 u120 u121 u122 u123 u124 hk gz HW hS hL q x HQ HX R 1 false (by aj c2;rfl) (by decide) hR (by omega) eA J0 K0 _ hJ0 hK0
    · have Si:k=4:=by omega
      have RS:Hid (bI l ⟨op,fa,fb,fc,fd⟩ t=if op=11/\((am l fb.toNat).ups.any fun u=>u.1&&bb s.types u.2.toNat != 2)=true then none else some s):=by
        show _=_;unfold bI;have e:(bj (aA.mk op fa fb fc fd).op).getD []=r:=by show(bj op).getD []=r;rw[HR.out];rfl
        have e4:=hS.out;rw[Si]at e4;rw[e,e4]
      have c0:=hW.ins.op;have cb:=hW.ins.fb;have cc:=hW.code;have sz:=hW.size;have eo:=OR.out;have zz:w.heap.size+1<wr.heap.size:=World.block_lt_of_cell? _ _ c0;rw[Nat.zero_add]at cb;clear hW HF;have OUT:Hid (∀ w',nY w base g nt ct bT b1 b2 a m c ⟨op,fa,fb,fc,fd⟩ r s u10 u11 w'->bI l ⟨op,fa,fb,fc,fd⟩ t=some s->ye (bI l ⟨op,fa,fb,fc,fd⟩ t) base g nt ct w (.returned (.tuple #[u10,.bool true])) w'):=fun w' h1 h2=>
        ⟨u10,true,rfl,fun _=>⟨s,h2,h1.types,h1.taken.base_le OR.out⟩,fun h=>Bool.noConfusion h,h1.old⟩
      by_cases fo:op=11
      · obtain⟨f0,f1,qw⟩:=Pw.out fo;change 0<=fb at f0;change fb<l.length at f1;obtain⟨F,rfl⟩:=Int.eq_ofNat_of_zero_le f0;have Ho:F<l.length:=by omega
        obtain⟨pb,po,rfl,PQ,vf⟩:=(aa qH).2 (by omega);have PC:=vf F Ho;obtain⟨ua,uc,Bg,PW⟩:=PC.ups;have Vn:=((aa HW).old.cell (p:=(a_ pb (po+F * 9+5))) (aa gW pb PQ)).trans Bg;clear Bg;have Wn:am l F=l[F]?.getD ak.z:=rfl;have e9:(l[F]?.getD ak.z)∈l:=by rw[g_ Ho];exact List.getElem_mem Ho
        have sT:=aa Li _ e9;change ∀ u,u∈(am l F).ups->u.1=true->0<=u.2/\u.2<nt at qw;rw[Wn]at qw;have Zy:Hid (bI l ⟨op,fa,(F:Int),fc,fd⟩ t=if((l[F]?.getD ak.z).ups.any fun u=>u.1&&bb s.types u.2.toNat != 2)=true then none else some s):=by
          show _=_;rw[RS.out,fo];simp only[true_and];rfl
        have Ko:pb<wr.heap.size:=l_ (l_ (aa gW pb PQ) (by omega)) (Nat.le_trans OR.out (aa HW).size);have VL:=af PW;have Ba:=af qw;have hFm:(F:Int)<m:=by have:=HM.out;omega
        have ab6:(0:Int)<=(F:Int):=by omega
        have ob:(op==11)=true:=by simpa using fo
        clear RS vf PC PW qw Wn e9 f0 f1 fo Pw;generalize (l[F]?.getD ak.z).ups=us at *;go_wp2_with fail
        go_loopg [136] us.length (fun gg i wr'=>∃ q:Nat,q+gg=us.length/\i=i_ q/\nY w base g nt ct bT b1 b2 (some (a_ pb po)) m c ⟨op,fa,(F:Int),fc,fd⟩ r s u10 u11 wr'/\Hid (∀ j,j<q->((us[j]?.getD (false,0)).1&&bb s.types (us[j]?.getD (false,0)).2.toNat != 2)=false))
        case atStart=>exact⟨0,by omega,rfl,aa HW,fun j h=>absurd h (Nat.not_lt_zero _)⟩
        case round=>
          clear HW c0 cb cc Vn Ko;obtain⟨q,hq,rfl,hW,bN⟩:=hrel;have zz:w.heap.size+1<wr.heap.size:=World.block_lt_of_cell? _ _ hW.ins.op;by_cases fw:q<us.length
          · obtain⟨ub,uo,rfl,Xm,PO⟩:=((aa VL).keep hW.old (aa gW)).2 (by omega);obtain⟨e0,e1⟩:=PO q fw;have e9:us[q]?.getD (false,0)∈us:=by rw[g_ fw];exact List.getElem_mem fw
            have Vr:=af (aa Ba _ e9);have V8:ub<wr.heap.size:=l_ (l_ (aa gW ub Xm) (by omega)) (Nat.le_trans OR.out hW.size);have NX:Hid (((us[q]?.getD (false,0)).1&&bb s.types (us[q]?.getD (false,0)).2.toNat != 2)=false->∀ j,j<q+1->((us[j]?.getD (false,0)).1&&bb s.types (us[j]?.getD (false,0)).2.toNat != 2)=false):=fun h j hj=>by
              by_cases e:j=q
              · aj e;exact h
              · exact bN.out j (by omega)
            have Bt:Hid (((us[q]?.getD (false,0)).1&&bb s.types (us[q]?.getD (false,0)).2.toNat != 2)=true->bI l ⟨op,fa,(F:Int),fc,fd⟩ t=none):=fun h=>by
              rw[Zy.out,if_pos];rw[List.any_eq_true];exact⟨_,e9,h⟩
            clear PO bN e9;generalize us[q]?.getD (false,0)=u at *;obtain⟨BN,ix⟩:=u;dsimp only at *;have HW:=af hW;have L7:=af (hW.below (aa my) (r_.alloc n_ (.cells #[.bool BN,i_ ix] 46)));cases BN
            · have Wj:=af (aa NX rfl);clear NX Bt hW;go_wp2_with fail
              go_roundg (us.length-(q+1))
              case measure=>omega
              case rel=>exact⟨q+1,by omega,by go_num,aa L7,Wj⟩
            · obtain⟨i0,i1⟩:=aa Vr rfl;obtain⟨X,rfl⟩:=Int.eq_ofNat_of_zero_le i0;obtain⟨g',iM,jE,_,fm,aE⟩:=hW.types.at (by rw[<-hL.out.1];omega);have gQ:g'=g:=by injection jE with h;injection h with h;exact(congrArg Addr.block h).symm
              have cX:=aE X (by have:=hL.out.1;omega);rw[gQ]at cX fm;have gV:Hid (bb s.types X=s.types[X]?.getD 0):=rfl;rw[show((X:Nat):Int).toNat=X from rfl,gV.out]at NX Bt;have NL:X<nt:=by omega
              clear hW jE aE gQ gV;generalize s.types[X]?.getD 0=tx at *;by_cases htx:tx=2
              · aj htx
                have Wj:=af (aa NX (by decide));clear NX Bt;go_wp2_with fail
                go_roundg (us.length-(q+1))
                case measure=>omega
                case rel=>exact⟨q+1,by omega,by go_num,aa L7,Wj⟩
              · have RR:Hid (bI l ⟨op,fa,(F:Int),fc,fd⟩ t=none):=aa Bt (by simpa using htx);have txb:(tx != 2)=true:=by simpa using htx
                clear NX Bt htx;go_wp2_with fail
                go_ret2
                exact ui RR.out (aa L7).old
          · have RR:Hid (bI l ⟨op,fa,(F:Int),fc,fd⟩ t=some s):=by
              show _=_;rw[Zy.out,if_neg];rw[List.any_eq_true];rintro⟨u,hu,h⟩;obtain⟨j,hj,rfl⟩:=List.getElem_of_mem hu;have:=bN.out j (by omega);rw[g_ hj]at this;rw[show(some us[j]).getD (false,0)=us[j]from rfl,h]at this;cases this
            have HW:=af hW;clear hW bN Zy;go_wp2_with fail
            go_ret2
            exact OUT.out _ (aa HW) RR.out
      · have RR:Hid (bI l ⟨op,fa,fb,fc,fd⟩ t=some s):=by show _=_;rw[RS.out,if_neg (fun h=>fo h.1)]
        have ob:(op==11)=false:=by simpa using fo
        clear RS fo;go_wp2_with fail
        go_ret2
        exact OUT.out _ (aa HW) RR.out
end Go.Proofs.YtcjfjflljdojlaaGreatDoor

import Derived.Test.YtcjfjflljdojlaaGreatDoorPart29
set_option linter.unusedSimpArgs false
set_option linter.unusedVariables false
set_option maxHeartbeats 4000000
set_option maxRecDepth 1000000
namespace Go.Proofs.YtcjfjflljdojlaaGreatDoor
open Go.RowKit
theorem t9 (l:List ak)(op fa fb fc fd p:Int)(r:List Nat)(t:List Int)(base g nt ct m c bT b1 b2:Nat)(a:o_)(w:World)
  (my:Hid (CQ w base g bT b1 b2))(HR:Hid (bj op=some r))(aP:nt<=250)(gk k:Nat)(s:gX)(wr:World)(u8 u9 u10 u11 u13 u14 u15 u16 u17 u19 u20 u21 u31 u32 u33 u34 u35 u36 u37 u38 u39 u40 u41 u42 u43 u44 u45 u46 u47 u48 u49 u50 u51 u52 u53 u54 u55 u56 u57 u58 u59 u60 u61 u62 u63 u64 u65 u66 u67 u68 u69 u70 u71 u72 u73 u74 u75 u76 u77 u78 u79 u80 u81 u82 u83 u84 u85 u86 u87 u88 u89 u90 u91 u92 u93 u94 u95 u96 u97 u98 u99 u100 u101 u102 u103 u104 u105 u106 u107 u108 u109 u110 u111 u112 u113 u114 u115 u116 u117 u118 u119 u120 u121 u122 u123 u124:Value)(hk:k+gk=4)(gz:k<4)
  (HW:Hid (nY w base g nt ct bT b1 b2 a m c ⟨op,fa,fb,fc,fd⟩ r s u10 u11 wr))(hS:Hid (aX r ⟨op,fa,fb,fc,fd⟩ ⟨t,[],[]⟩ k=some s))(hL:Hid (js nt k s))(q:Nat)(x:Int)(HQ:Hid (r[k]?.getD 0=q))(HX:Hid (dm ⟨op,fa,fb,fc,fd⟩ k=x))
  (R:Nat)(W:Int)(jG:q=4/\W=1\/q=5/\W=2\/q=6/\W=3)(hx:x=R)(hRn:R+0<nt)(eA:bb s.types R=W)
  (J:Nat->Act->World->Prop)(K K2:Act->World->Prop)
  (hJ:zb op fa fb fc fd p r t base g nt ct m c bT b1 b2 a w J)
  (hK:∀(a':Act)(w':World),Handed J gk a' w'->K a' w') :
  gd l op fa fb fc fd p t base g nt ct m c b1 b2 a w k K K2 wr u8 u9 u10 u11 u13 u14 u15 u16 u17 u19 u20 u21 u31 u32 u33 u34 u35 u36 u37 u38 u39 u40 u41 u42 u43 u44 u45 u46 u47 u48 u49 u50 u51 u52 u53 u54 u55 u56 u57 u58 u59 u60 u61 u62 u63 u64 u65 u66 u67 u68 u69 u70 u71 u72 u73 u74 u75 u76 u77 u78 u79 u80 u81 u82 u83 u84 u85 u86 u87 u88 u89 u90 u91 u92 u93 u94 u95 u96 u97 u98 u99 u100 u101 u102 u103 u104 u105 u106 u107 u108 u109 u110 u111 u112 u113 u114 u115 u116 u117 u118 u119 u120 u121 u122 u123 u124:=by
 unfold zb at hJ;unfold gd;obtain⟨i0,hi,dE,cT,dB⟩:=aN dT;have y1:=(aa HW).roles.cell (i:=k) gz;rw[HQ.out]at y1;have y2:=(aa HW).flds.cell (i:=k) gz;rw[HX.out]at y2;have y3:=(aa HW).roles.lt;have y4:=(aa HW).flds.lt;have ml:q<=21:=by rw[<-HQ.out];exact fD HR.out k
 have WA:=af (fun W=>ex q ml W);have eN:Hid (aX r ⟨op,fa,fb,fc,fd⟩ ⟨t,[],[]⟩ (k+1)=gK q x s):=by show _=_;rw[ey hS.out,HQ.out,HX.out]
 have jA:Hid (gK q x s=none->bI l ⟨op,fa,fb,fc,fd⟩ t=none):=fun h=>fO HR.out (by rw[eN.out];exact h) (show k+1<=4 by omega)
 conv=>arg 2;whnf
 obtain⟨g',iM,jE,_,fm,aE⟩:=(aa HW).types.at (by rw[<-hL.out.1];omega);have gQ:g=g':=by injection jE with h;injection h with h;exact congrArg Addr.block h
 aj gQ
 have cR:=aE R (by have:=hL.out.1;omega)
 aj hx
 have HM:=tB (q:=q) (more:=0) (W:=W) (s:=s) (R:=R) (.inr (.inr ⟨jG,rfl⟩)) eA;have SF:Hid (∀ d,1<=d->d<=0->bb s.types (R+d)≠1->bI l ⟨op,fa,fb,fc,fd⟩ t=none):=fun d d1 d2 hd=>jA.out (HM.1 d d1 d2 hd);have SY:Hid ((∀ d,1<=d->d<=0->bb s.types (R+d)=1)->aX r ⟨op,fa,fb,fc,fd⟩ ⟨t,[],[]⟩ (k+1)=some ⟨s.types,s.taken,s.stay++[R]⟩):=fun hd=>by rw[eN.out];exact HM.2 hd
 have LN:Hid (js nt (k+1) ⟨s.types,s.taken,s.stay++[R]⟩):=⟨hL.out.1,by have:=hL.out.2.1;show s.taken.length<=_;omega,by have:=hL.out.2.2;simp;omega⟩;have gV:bb s.types R=s.types[R]?.getD 0:=rfl;rw[gV]at eA;have hw:cN q=(W,false):=by rcases jG with⟨rfl,rfl⟩ | ⟨rfl,rfl⟩ | ⟨rfl,rfl⟩<;>rfl
 rw[hw]at WA;have hW0:(W==0)=false:=by rcases jG with⟨_,rfl⟩ | ⟨_,rfl⟩ | ⟨_,rfl⟩<;>rfl
 have VX:((q:Int)==18)=false:=beq_eq_false_iff_ne.2 (by omega);have P7:((q:Int)==20)=false:=beq_eq_false_iff_ne.2 (by omega);have Ry:((q:Int)==19)=false:=beq_eq_false_iff_ne.2 (by omega);clear aE jE gV jA eN HM;generalize s.types[R]?.getD 0=ty at *;have tb:(ty != W)=false:=by simpa using eA
 aj eA
 clear hw jG;have uY:Hid ((aH s.stay).length<=1048576):=by show _<=_;rw[ba];have:=hL.out.2.2;omega
 have NC:=(aa HW).size;go_wp2_with fail
 refine(aa WA _).mono ?_;rintro e w3 ⟨rfl,rfl⟩;go_wp2_with (first
  | (at_builtin;refine wpList_append_lies _ rfl _ _ 70 rfl bT 3 i0 (i_ 0) 1 8 Tryz.underlying70 hi dE cT dB rfl (by decide) _ _ _ rfl ((aa HW).stay.alloc _) (a_ w3.heap.size 0) 1 1 [i_ (R:Int)] rfl rfl ?c1 ?c2 (by decide) ?c3 ?c4 ?c5 (w3.heap.size+1) (by simp) ?_)
  | go_in)
 all_goals try (case c1=>
  intro j u hj
  match j,hj with
  | 0,hj=>simp at hj;aj hj;simp[Addr.add,go_sem])
 all_goals try (case c2=>first | rfl | (intro u hu;simp at hu;aj hu;rfl))
 all_goals try (case c3=>have:=uY.out;unfold maxLen;omega)
 all_goals try (case c4=>have:=uY.out;omega)
 all_goals try (case c5=>first | omega | (simp;omega))
 intro g3 cap3 w4 hown3 hgrow3 hat3 hlt3;have O3:Hid (ar w4 bT (.slice (some (a_ g3 0)) ((aH s.stay).length+1) cap3) (aH (s.stay++[R]))):=by show ar _ _ _ _;rw[f9];exact ar.push hown3
 have jm:=af ((aa HW).hold (aa my) (x:=R) hgrow3 (aa O3) (by simpa using hat3));have z1:=(aa jm).roles.cell (i:=k) gz;rw[HQ.out]at z1;have z3:=(aa jm).roles.lt;clear hown3 hgrow3 hat3 O3 HW y1 y2 y3 y4 cR fm;go_wp2_with fail
 go_loopg [21] 0 (fun gg i wr'=>∃ d:Nat,d+gg=1/\1<=d/\i=i_ d/\nY w base g nt ct bT b1 b2 a m c ⟨op,fa,fb,fc,fd⟩ r ⟨s.types,s.taken,s.stay++[R]⟩ u10 (.slice (some (a_ g3 0)) ((aH s.stay).length+1) cap3) wr'/\Hid (∀ e,1<=e->e<d->bb s.types (R+e)=1))
 case atStart=>exact⟨1,by omega,by omega,rfl,aa jm,fun e h1 h2=>absurd h1 (by omega)⟩
 case round=>
  clear jm z1 z3;obtain⟨d,hd,Iw,rfl,mG,bN⟩:=hrel;by_cases RW:d<=0
  ·exact absurd RW (by omega)
  ·have SN:Hid (aX r ⟨op,fa,fb,fc,fd⟩ ⟨t,[],[]⟩ (k+1)=some ⟨s.types,s.taken,s.stay++[R]⟩):=SY.out (fun e h1 h2=>bN.out e h1 (by omega));have y1:=mG.roles.cell (i:=k) gz;rw[HQ.out]at y1;have y3:=mG.roles.lt;have jm:=af mG;clear mG bN;go_wp2_with fail
   go_roundg (4-(k+1))
   case measure=>omega
   case rel=>exact⟨k+1,⟨s.types,s.taken,s.stay++[R]⟩,by omega,by go_num,aa jm,SN,LN⟩
theorem Nm (l:List ak)(op fa fb fc fd p:Int)(r:List Nat)(t:List Int)(base g nt ct m c bT b1 b2:Nat)(a:o_)(w:World)
  (my:Hid (CQ w base g bT b1 b2))(HR:Hid (bj op=some r))(aP:nt<=250)(gk k:Nat)(s:gX)(wr:World)(u8 u9 u10 u11 u13 u14 u15 u16 u17 u19 u20 u21 u31 u32 u33 u34 u35 u36 u37 u38 u39 u40 u41 u42 u43 u44 u45 u46 u47 u48 u49 u50 u51 u52 u53 u54 u55 u56 u57 u58 u59 u60 u61 u62 u63 u64 u65 u66 u67 u68 u69 u70 u71 u72 u73 u74 u75 u76 u77 u78 u79 u80 u81 u82 u83 u84 u85 u86 u87 u88 u89 u90 u91 u92 u93 u94 u95 u96 u97 u98 u99 u100 u101 u102 u103 u104 u105 u106 u107 u108 u109 u110 u111 u112 u113 u114 u115 u116 u117 u118 u119 u120 u121 u122 u123 u124:Value)(hk:k+gk=4)(gz:k<4)
  (HW:Hid (nY w base g nt ct bT b1 b2 a m c ⟨op,fa,fb,fc,fd⟩ r s u10 u11 wr))(hS:Hid (aX r ⟨op,fa,fb,fc,fd⟩ ⟨t,[],[]⟩ k=some s))(hL:Hid (js nt k s))(q:Nat)(x:Int)(HQ:Hid (r[k]?.getD 0=q))(HX:Hid (dm ⟨op,fa,fb,fc,fd⟩ k=x))
  (R:Nat)(W:Int)(jG:q=20/\W=1)(hx:x=R)(hRn:R+1<nt)(eA:bb s.types R=W)
  (J:Nat->Act->World->Prop)(K K2:Act->World->Prop)
  (hJ:zb op fa fb fc fd p r t base g nt ct m c bT b1 b2 a w J)
  (hK:∀(a':Act)(w':World),Handed J gk a' w'->K a' w') :
  gd l op fa fb fc fd p t base g nt ct m c b1 b2 a w k K K2 wr u8 u9 u10 u11 u13 u14 u15 u16 u17 u19 u20 u21 u31 u32 u33 u34 u35 u36 u37 u38 u39 u40 u41 u42 u43 u44 u45 u46 u47 u48 u49 u50 u51 u52 u53 u54 u55 u56 u57 u58 u59 u60 u61 u62 u63 u64 u65 u66 u67 u68 u69 u70 u71 u72 u73 u74 u75 u76 u77 u78 u79 u80 u81 u82 u83 u84 u85 u86 u87 u88 u89 u90 u91 u92 u93 u94 u95 u96 u97 u98 u99 u100 u101 u102 u103 u104 u105 u106 u107 u108 u109 u110 u111 u112 u113 u114 u115 u116 u117 u118 u119 u120 u121 u122 u123 u124:=by
 unfold zb at hJ;unfold gd;obtain⟨i0,hi,dE,cT,dB⟩:=aN dT;have y1:=(aa HW).roles.cell (i:=k) gz;rw[HQ.out]at y1;have y2:=(aa HW).flds.cell (i:=k) gz;rw[HX.out]at y2;have y3:=(aa HW).roles.lt;have y4:=(aa HW).flds.lt;have ml:q<=21:=by rw[<-HQ.out];exact fD HR.out k
 have WA:=af (fun W=>ex q ml W);have eN:Hid (aX r ⟨op,fa,fb,fc,fd⟩ ⟨t,[],[]⟩ (k+1)=gK q x s):=by show _=_;rw[ey hS.out,HQ.out,HX.out]
 have jA:Hid (gK q x s=none->bI l ⟨op,fa,fb,fc,fd⟩ t=none):=fun h=>fO HR.out (by rw[eN.out];exact h) (show k+1<=4 by omega)
 conv=>arg 2;whnf
 obtain⟨g',iM,jE,_,fm,aE⟩:=(aa HW).types.at (by rw[<-hL.out.1];omega);have gQ:g=g':=by injection jE with h;injection h with h;exact congrArg Addr.block h
 aj gQ
 have cR:=aE R (by have:=hL.out.1;omega)
 aj hx
 have HM:=tB (q:=q) (more:=1) (W:=W) (s:=s) (R:=R) (.inr (.inl ⟨jG.1,jG.2,rfl⟩)) eA;have SF:Hid (∀ d,1<=d->d<=1->bb s.types (R+d)≠1->bI l ⟨op,fa,fb,fc,fd⟩ t=none):=fun d d1 d2 hd=>jA.out (HM.1 d d1 d2 hd);have SY:Hid ((∀ d,1<=d->d<=1->bb s.types (R+d)=1)->aX r ⟨op,fa,fb,fc,fd⟩ ⟨t,[],[]⟩ (k+1)=some ⟨s.types,s.taken,s.stay++[R]⟩):=fun hd=>by rw[eN.out];exact HM.2 hd
 have LN:Hid (js nt (k+1) ⟨s.types,s.taken,s.stay++[R]⟩):=⟨hL.out.1,by have:=hL.out.2.1;show s.taken.length<=_;omega,by have:=hL.out.2.2;simp;omega⟩;have gV:bb s.types R=s.types[R]?.getD 0:=rfl;rw[gV]at eA;have hw:cN q=(W,false):=by obtain⟨rfl,rfl⟩:=jG;rfl
 rw[hw]at WA;have hW0:(W==0)=false:=by obtain⟨_,rfl⟩:=jG;rfl
 have VX:((q:Int)==18)=false:=beq_eq_false_iff_ne.2 (by omega);have P7:((q:Int)==20)=true:=by simp;omega
 have Ry:((q:Int)==19)=false:=beq_eq_false_iff_ne.2 (by omega);clear aE jE gV jA eN HM;generalize s.types[R]?.getD 0=ty at *;have tb:(ty != W)=false:=by simpa using eA
 aj eA
 clear hw jG;have uY:Hid ((aH s.stay).length<=1048576):=by show _<=_;rw[ba];have:=hL.out.2.2;omega
 have NC:=(aa HW).size;go_wp2_with fail
 refine(aa WA _).mono ?_;rintro e w3 ⟨rfl,rfl⟩;go_wp2_with (first
  | (at_builtin;refine wpList_append_lies _ rfl _ _ 70 rfl bT 3 i0 (i_ 0) 1 8 Tryz.underlying70 hi dE cT dB rfl (by decide) _ _ _ rfl ((aa HW).stay.alloc _) (a_ w3.heap.size 0) 1 1 [i_ (R:Int)] rfl rfl ?c1 ?c2 (by decide) ?c3 ?c4 ?c5 (w3.heap.size+1) (by simp) ?_)
  | go_in)
 all_goals try (case c1=>
  intro j u hj
  match j,hj with
  | 0,hj=>simp at hj;aj hj;simp[Addr.add,go_sem])
 all_goals try (case c2=>first | rfl | (intro u hu;simp at hu;aj hu;rfl))
 all_goals try (case c3=>have:=uY.out;unfold maxLen;omega)
 all_goals try (case c4=>have:=uY.out;omega)
 all_goals try (case c5=>first | omega | (simp;omega))
 intro g3 cap3 w4 hown3 hgrow3 hat3 hlt3;have O3:Hid (ar w4 bT (.slice (some (a_ g3 0)) ((aH s.stay).length+1) cap3) (aH (s.stay++[R]))):=by show ar _ _ _ _;rw[f9];exact ar.push hown3
 have jm:=af ((aa HW).hold (aa my) (x:=R) hgrow3 (aa O3) (by simpa using hat3));have z1:=(aa jm).roles.cell (i:=k) gz;rw[HQ.out]at z1;have z3:=(aa jm).roles.lt;clear hown3 hgrow3 hat3 O3 HW y1 y2 y3 y4 cR fm;go_wp2_with fail
 go_loopg [21] 1 (fun gg i wr'=>∃ d:Nat,d+gg=2/\1<=d/\i=i_ d/\nY w base g nt ct bT b1 b2 a m c ⟨op,fa,fb,fc,fd⟩ r ⟨s.types,s.taken,s.stay++[R]⟩ u10 (.slice (some (a_ g3 0)) ((aH s.stay).length+1) cap3) wr'/\Hid (∀ e,1<=e->e<d->bb s.types (R+e)=1))
 case atStart=>exact⟨1,by omega,by omega,rfl,aa jm,fun e h1 h2=>absurd h1 (by omega)⟩
 case round=>
  clear jm z1 z3;obtain⟨d,hd,Iw,rfl,mG,bN⟩:=hrel;by_cases RW:d<=1
  ·obtain⟨g',iM,jE,_,fm,aE⟩:=mG.types.at (by rw[show(gX.mk s.types s.taken (s.stay++[R])).types.length=nt from hL.out.1.symm];omega);have gQ:g'=g:=by injection jE with h;injection h with h;exact(congrArg Addr.block h).symm
   have cD:=aE (R+d) (by show R+d<s.types.length;have:=hL.out.1;omega);rw[gQ]at cD fm;change wr.cell? (a_ g (R+d))=some (i_ (s.types[R+d]?.getD 0))at cD;have gV:Hid (bb s.types (R+d)=s.types[R+d]?.getD 0):=rfl;have jm:=af mG;clear jE aE gQ mG;generalize s.types[R+d]?.getD 0=tz at *;by_cases htz:tz=1
   ·have NX:Hid (∀ e,1<=e->e<d+1->bb s.types (R+e)=1):=fun e h1 h2=>by
     by_cases c:e=d
     ·aj c;rw[gV.out];exact htz
     ·exact bN.out e h1 (by omega)
    aj htz
    clear gV bN;go_wp2_with fail
    go_roundg (2-(d+1))
    case measure=>omega
    case rel=>exact⟨d+1,by omega,by omega,by go_num,aa jm,NX⟩
   ·have RR:Hid (bI l ⟨op,fa,fb,fc,fd⟩ t=none):=SF.out d Iw RW (by rw[gV.out];exact htz);have tzb:(tz != 1)=true:=by simpa using htz
    clear gV htz bN;go_wp2_with fail
    go_ret2
    exact ui RR.out (aa jm).old
  ·have SN:Hid (aX r ⟨op,fa,fb,fc,fd⟩ ⟨t,[],[]⟩ (k+1)=some ⟨s.types,s.taken,s.stay++[R]⟩):=SY.out (fun e h1 h2=>bN.out e h1 (by omega));have y1:=mG.roles.cell (i:=k) gz;rw[HQ.out]at y1;have y3:=mG.roles.lt;have jm:=af mG;clear mG bN;go_wp2_with fail
   go_roundg (4-(k+1))
   case measure=>omega
   case rel=>exact⟨k+1,⟨s.types,s.taken,s.stay++[R]⟩,by omega,by go_num,aa jm,SN,LN⟩
theorem JK (l:List ak)(op fa fb fc fd p:Int)(r:List Nat)(t:List Int)(base g nt ct m c bT b1 b2:Nat)(a:o_)(w:World)
  (my:Hid (CQ w base g bT b1 b2))(HR:Hid (bj op=some r))(aP:nt<=250)(gk k:Nat)(s:gX)(wr:World)(u8 u9 u10 u11 u13 u14 u15 u16 u17 u19 u20 u21 u31 u32 u33 u34 u35 u36 u37 u38 u39 u40 u41 u42 u43 u44 u45 u46 u47 u48 u49 u50 u51 u52 u53 u54 u55 u56 u57 u58 u59 u60 u61 u62 u63 u64 u65 u66 u67 u68 u69 u70 u71 u72 u73 u74 u75 u76 u77 u78 u79 u80 u81 u82 u83 u84 u85 u86 u87 u88 u89 u90 u91 u92 u93 u94 u95 u96 u97 u98 u99 u100 u101 u102 u103 u104 u105 u106 u107 u108 u109 u110 u111 u112 u113 u114 u115 u116 u117 u118 u119 u120 u121 u122 u123 u124:Value)(hk:k+gk=4)(gz:k<4)
  (HW:Hid (nY w base g nt ct bT b1 b2 a m c ⟨op,fa,fb,fc,fd⟩ r s u10 u11 wr))(hS:Hid (aX r ⟨op,fa,fb,fc,fd⟩ ⟨t,[],[]⟩ k=some s))(hL:Hid (js nt k s))(q:Nat)(x:Int)(HQ:Hid (r[k]?.getD 0=q))(HX:Hid (dm ⟨op,fa,fb,fc,fd⟩ k=x))
  (R:Nat)(W:Int)(jG:q=18/\W=1)(hx:x=R)(hRn:R+2<nt)(eA:bb s.types R=W)
  (J:Nat->Act->World->Prop)(K K2:Act->World->Prop)
  (hJ:zb op fa fb fc fd p r t base g nt ct m c bT b1 b2 a w J)
  (hK:∀(a':Act)(w':World),Handed J gk a' w'->K a' w') :
  gd l op fa fb fc fd p t base g nt ct m c b1 b2 a w k K K2 wr u8 u9 u10 u11 u13 u14 u15 u16 u17 u19 u20 u21 u31 u32 u33 u34 u35 u36 u37 u38 u39 u40 u41 u42 u43 u44 u45 u46 u47 u48 u49 u50 u51 u52 u53 u54 u55 u56 u57 u58 u59 u60 u61 u62 u63 u64 u65 u66 u67 u68 u69 u70 u71 u72 u73 u74 u75 u76 u77 u78 u79 u80 u81 u82 u83 u84 u85 u86 u87 u88 u89 u90 u91 u92 u93 u94 u95 u96 u97 u98 u99 u100 u101 u102 u103 u104 u105 u106 u107 u108 u109 u110 u111 u112 u113 u114 u115 u116 u117 u118 u119 u120 u121 u122 u123 u124:=by
 unfold zb at hJ;unfold gd;obtain⟨i0,hi,dE,cT,dB⟩:=aN dT;have y1:=(aa HW).roles.cell (i:=k) gz;rw[HQ.out]at y1;have y2:=(aa HW).flds.cell (i:=k) gz;rw[HX.out]at y2;have y3:=(aa HW).roles.lt;have y4:=(aa HW).flds.lt;have ml:q<=21:=by rw[<-HQ.out];exact fD HR.out k
 have WA:=af (fun W=>ex q ml W);have eN:Hid (aX r ⟨op,fa,fb,fc,fd⟩ ⟨t,[],[]⟩ (k+1)=gK q x s):=by show _=_;rw[ey hS.out,HQ.out,HX.out]
 have jA:Hid (gK q x s=none->bI l ⟨op,fa,fb,fc,fd⟩ t=none):=fun h=>fO HR.out (by rw[eN.out];exact h) (show k+1<=4 by omega)
 conv=>arg 2;whnf
 obtain⟨g',iM,jE,_,fm,aE⟩:=(aa HW).types.at (by rw[<-hL.out.1];omega);have gQ:g=g':=by injection jE with h;injection h with h;exact congrArg Addr.block h
 aj gQ
 have cR:=aE R (by have:=hL.out.1;omega)
 aj hx
 have HM:=tB (q:=q) (more:=2) (W:=W) (s:=s) (R:=R) (.inl ⟨jG.1,jG.2,rfl⟩) eA;have SF:Hid (∀ d,1<=d->d<=2->bb s.types (R+d)≠1->bI l ⟨op,fa,fb,fc,fd⟩ t=none):=fun d d1 d2 hd=>jA.out (HM.1 d d1 d2 hd);have SY:Hid ((∀ d,1<=d->d<=2->bb s.types (R+d)=1)->aX r ⟨op,fa,fb,fc,fd⟩ ⟨t,[],[]⟩ (k+1)=some ⟨s.types,s.taken,s.stay++[R]⟩):=fun hd=>by rw[eN.out];exact HM.2 hd
 have LN:Hid (js nt (k+1) ⟨s.types,s.taken,s.stay++[R]⟩):=⟨hL.out.1,by have:=hL.out.2.1;show s.taken.length<=_;omega,by have:=hL.out.2.2;simp;omega⟩;have gV:bb s.types R=s.types[R]?.getD 0:=rfl;rw[gV]at eA;have hw:cN q=(W,false):=by obtain⟨rfl,rfl⟩:=jG;rfl
 rw[hw]at WA;have hW0:(W==0)=false:=by obtain⟨_,rfl⟩:=jG;rfl
 have VX:((q:Int)==18)=true:=by simp;omega
 have P7:((q:Int)==20)=false:=beq_eq_false_iff_ne.2 (by omega);have Ry:((q:Int)==19)=false:=beq_eq_false_iff_ne.2 (by omega);clear aE jE gV jA eN HM;generalize s.types[R]?.getD 0=ty at *;have tb:(ty != W)=false:=by simpa using eA
 aj eA
 clear hw jG;have uY:Hid ((aH s.stay).length<=1048576):=by show _<=_;rw[ba];have:=hL.out.2.2;omega
 have NC:=(aa HW).size;go_wp2_with fail
 refine(aa WA _).mono ?_;rintro e w3 ⟨rfl,rfl⟩;go_wp2_with (first
  | (at_builtin;refine wpList_append_lies _ rfl _ _ 70 rfl bT 3 i0 (i_ 0) 1 8 Tryz.underlying70 hi dE cT dB rfl (by decide) _ _ _ rfl ((aa HW).stay.alloc _) (a_ w3.heap.size 0) 1 1 [i_ (R:Int)] rfl rfl ?c1 ?c2 (by decide) ?c3 ?c4 ?c5 (w3.heap.size+1) (by simp) ?_)
  | go_in)
 all_goals try (case c1=>
  intro j u hj
  match j,hj with
  | 0,hj=>simp at hj;aj hj;simp[Addr.add,go_sem])
 all_goals try (case c2=>first | rfl | (intro u hu;simp at hu;aj hu;rfl))
 all_goals try (case c3=>have:=uY.out;unfold maxLen;omega)
 all_goals try (case c4=>have:=uY.out;omega)
 all_goals try (case c5=>first | omega | (simp;omega))
 intro g3 cap3 w4 hown3 hgrow3 hat3 hlt3;have O3:Hid (ar w4 bT (.slice (some (a_ g3 0)) ((aH s.stay).length+1) cap3) (aH (s.stay++[R]))):=by show ar _ _ _ _;rw[f9];exact ar.push hown3
 have jm:=af ((aa HW).hold (aa my) (x:=R) hgrow3 (aa O3) (by simpa using hat3));have z1:=(aa jm).roles.cell (i:=k) gz;rw[HQ.out]at z1;have z3:=(aa jm).roles.lt;clear hown3 hgrow3 hat3 O3 HW y1 y2 y3 y4 cR fm;go_wp2_with fail
 go_loopg [21] 2 (fun gg i wr'=>∃ d:Nat,d+gg=3/\1<=d/\i=i_ d/\nY w base g nt ct bT b1 b2 a m c ⟨op,fa,fb,fc,fd⟩ r ⟨s.types,s.taken,s.stay++[R]⟩ u10 (.slice (some (a_ g3 0)) ((aH s.stay).length+1) cap3) wr'/\Hid (∀ e,1<=e->e<d->bb s.types (R+e)=1))
 case atStart=>exact⟨1,by omega,by omega,rfl,aa jm,fun e h1 h2=>absurd h1 (by omega)⟩
 case round=>
  clear jm z1 z3;obtain⟨d,hd,Iw,rfl,mG,bN⟩:=hrel;by_cases RW:d<=2
  ·obtain⟨g',iM,jE,_,fm,aE⟩:=mG.types.at (by rw[show(gX.mk s.types s.taken (s.stay++[R])).types.length=nt from hL.out.1.symm];omega);have gQ:g'=g:=by injection jE with h;injection h with h;exact(congrArg Addr.block h).symm
   have cD:=aE (R+d) (by show R+d<s.types.length;have:=hL.out.1;omega);rw[gQ]at cD fm;change wr.cell? (a_ g (R+d))=some (i_ (s.types[R+d]?.getD 0))at cD;have gV:Hid (bb s.types (R+d)=s.types[R+d]?.getD 0):=rfl;have jm:=af mG;clear jE aE gQ mG;generalize s.types[R+d]?.getD 0=tz at *;by_cases htz:tz=1
   ·have NX:Hid (∀ e,1<=e->e<d+1->bb s.types (R+e)=1):=fun e h1 h2=>by
     by_cases c:e=d
     ·aj c;rw[gV.out];exact htz
     ·exact bN.out e h1 (by omega)
    aj htz
    clear gV bN;go_wp2_with fail
    go_roundg (3-(d+1))
    case measure=>omega
    case rel=>exact⟨d+1,by omega,by omega,by go_num,aa jm,NX⟩
   ·have RR:Hid (bI l ⟨op,fa,fb,fc,fd⟩ t=none):=SF.out d Iw RW (by rw[gV.out];exact htz);have tzb:(tz != 1)=true:=by simpa using htz
    clear gV htz bN;go_wp2_with fail
    go_ret2
    exact ui RR.out (aa jm).old
  ·have SN:Hid (aX r ⟨op,fa,fb,fc,fd⟩ ⟨t,[],[]⟩ (k+1)=some ⟨s.types,s.taken,s.stay++[R]⟩):=SY.out (fun e h1 h2=>bN.out e h1 (by omega));have y1:=mG.roles.cell (i:=k) gz;rw[HQ.out]at y1;have y3:=mG.roles.lt;have jm:=af mG;clear mG bN;go_wp2_with fail
   go_roundg (4-(k+1))
   case measure=>omega
   case rel=>exact⟨k+1,⟨s.types,s.taken,s.stay++[R]⟩,by omega,by go_num,aa jm,SN,LN⟩
end Go.Proofs.YtcjfjflljdojlaaGreatDoor

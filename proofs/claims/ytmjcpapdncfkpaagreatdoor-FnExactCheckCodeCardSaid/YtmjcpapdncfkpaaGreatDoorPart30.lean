import Derived.Test.YtmjcpapdncfkpaaGreatDoorPart29
set_option linter.unusedSimpArgs false
set_option linter.unusedVariables false
set_option maxHeartbeats 4000000
set_option maxRecDepth 1000000
namespace Go.Proofs.YtmjcpapdncfkpaaGreatDoor
open Go.RowKit
theorem rd_place (l:List ProtoD)(op fa fb fc fd p:Int)(r:List Nat)(t:List Int)(base g nt ct m c bT b1 b2:Nat)(a:Option Addr)(w:World)
  (BLK:Hid (RdB w base g bT b1 b2))(HR:Hid (rolesC op=some r))(hlen:nt≤250)(gk k:Nat)(s:RdS)(wr:World)(u8 u9 u10 u11 u13 u14 u15 u16 u17 u19 u20 u21 u31 u32 u33 u34 u35 u36 u37 u38 u39 u40 u41 u42 u43 u44 u45 u46 u47 u48 u49 u50 u51 u52 u53 u54 u55 u56 u57 u58 u59 u60 u61 u62 u63 u64 u65 u66 u67 u68 u69 u70 u71 u72 u73 u74 u75 u76 u77 u78 u79 u80 u81 u82 u83 u84 u85 u86 u87 u88 u89 u90 u91 u92 u93 u94 u95 u96 u97 u98 u99 u100 u101 u102 u103 u104 u105 u106 u107 u108 u109 u110 u111 u112 u113 u114 u115 u116 u117 u118 u119 u120 u121 u122 u123 u124:Value)(hk:k+gk=4)(hk4:k<4)
  (HW:Hid (RdW w base g nt ct bT b1 b2 a m c ⟨op,fa,fb,fc,fd⟩ r s u10 u11 wr))(hS:Hid (rdUpto r ⟨op,fa,fb,fc,fd⟩ ⟨t,[],[]⟩ k=some s))(hL:Hid (RdLen nt k s))(q:Nat)(x:Int)(HQ:Hid (r[k]?.getD 0=q))(HX:Hid (insF ⟨op,fa,fb,fc,fd⟩ k=x))
  (R:Nat)(W:Int)(hWq:q=4∧W=1∨q=5∧W=2∨q=6∧W=3)(hx:x=R)(hRn:R+0<nt)(hty:tyAt s.types R=W)
  (J:Nat→Act→World→Prop)(K K2:Act→World→Prop)
  (hJ:RdJ op fa fb fc fd p r t base g nt ct m c bT b1 b2 a w J)
  (hK:∀(a':Act)(w':World),Handed J gk a' w'→K a' w') :
  RdGoal l op fa fb fc fd p t base g nt ct m c b1 b2 a w k K K2 wr u8 u9 u10 u11 u13 u14 u15 u16 u17 u19 u20 u21 u31 u32 u33 u34 u35 u36 u37 u38 u39 u40 u41 u42 u43 u44 u45 u46 u47 u48 u49 u50 u51 u52 u53 u54 u55 u56 u57 u58 u59 u60 u61 u62 u63 u64 u65 u66 u67 u68 u69 u70 u71 u72 u73 u74 u75 u76 u77 u78 u79 u80 u81 u82 u83 u84 u85 u86 u87 u88 u89 u90 u91 u92 u93 u94 u95 u96 u97 u98 u99 u100 u101 u102 u103 u104 u105 u106 u107 u108 u109 u110 u111 u112 u113 u114 u115 u116 u117 u118 u119 u120 u121 u122 u123 u124:=by
 unfold RdJ at hJ
 unfold RdGoal
 obtain⟨i0,hi,hz0,hz1,hz2⟩:=info_of info_i
 have y1:=(unhide HW).roles.cell (i:=k) hk4
 rw[HQ.out]at y1
 have y2:=(unhide HW).flds.cell (i:=k) hk4
 rw[HX.out]at y2
 have y3:=(unhide HW).roles.lt
 have y4:=(unhide HW).flds.lt
 have hq21:q≤21:=by rw[←HQ.out];exact rolesC_le HR.out k
 have WA:=hide (fun W=>l6wants_any q hq21 W)
 have STEP:Hid (rdUpto r ⟨op,fa,fb,fc,fd⟩ ⟨t,[],[]⟩ (k+1)=rdF q x s):=by show _=_;rw[rdUpto_next hS.out,HQ.out,HX.out]
 have FAIL:Hid (rdF q x s=none→readC l ⟨op,fa,fb,fc,fd⟩ t=none):=fun h=>readC_none HR.out (by rw[STEP.out];exact h) (show k+1≤4 by omega)
 conv=>arg 2;whnf
 obtain⟨g',cap',hv',_,hgl,hcc⟩:=(unhide HW).types.at (by rw[←hL.out.1];omega)
 have hg':g=g':=by injection hv' with h;injection h with h;exact congrArg Addr.block h
 subst hg'
 have cR:=hcc R (by have:=hL.out.1;omega)
 subst hx
 have HM:=rdF_more (q:=q) (more:=0) (W:=W) (s:=s) (R:=R) (.inr (.inr ⟨hWq,rfl⟩)) hty
 have SF:Hid (∀ d,1≤d→d≤0→tyAt s.types (R+d)≠1→readC l ⟨op,fa,fb,fc,fd⟩ t=none):=fun d d1 d2 hd=>FAIL.out (HM.1 d d1 d2 hd)
 have SY:Hid ((∀ d,1≤d→d≤0→tyAt s.types (R+d)=1)→rdUpto r ⟨op,fa,fb,fc,fd⟩ ⟨t,[],[]⟩ (k+1)=some ⟨s.types,s.taken,s.stay++[R]⟩):=fun hd=>by rw[STEP.out];exact HM.2 hd
 have LN:Hid (RdLen nt (k+1) ⟨s.types,s.taken,s.stay++[R]⟩):=⟨hL.out.1,by have:=hL.out.2.1;show s.taken.length≤_;omega,by have:=hL.out.2.2;simp;omega⟩
 have HTY:tyAt s.types R=s.types[R]?.getD 0:=rfl
 rw[HTY]at hty
 have hw:wantsC q=(W,false):=by rcases hWq with⟨rfl,rfl⟩ | ⟨rfl,rfl⟩ | ⟨rfl,rfl⟩<;>rfl
 rw[hw]at WA
 have hW0:(W==0)=false:=by rcases hWq with⟨_,rfl⟩ | ⟨_,rfl⟩ | ⟨_,rfl⟩<;>rfl
 have q18:((q:Int)==18)=false:=beq_eq_false_iff_ne.2 (by omega)
 have q20:((q:Int)==20)=false:=beq_eq_false_iff_ne.2 (by omega)
 have q19:((q:Int)==19)=false:=beq_eq_false_iff_ne.2 (by omega)
 clear hcc hv' HTY FAIL STEP HM
 generalize s.types[R]?.getD 0=ty at *
 have tb:(ty != W)=false:=by simpa using hty
 subst hty
 clear hw hWq
 have hTL:Hid ((natI s.stay).length≤1048576):=by show _≤_;rw[natI_len];have:=hL.out.2.2;omega
 have hbTs:=(unhide HW).size
 go_wp2_with fail
 refine(unhide WA _).mono ?_
 rintro e w3 ⟨rfl,rfl⟩
 go_wp2_with (first
  | (at_builtin;refine wpList_append_lies _ rfl _ _ 63 rfl bT 3 i0 (.int .i64 0) 1 8 Tryz.underlying63 hi hz0 hz1 hz2 rfl (by decide) _ _ _ rfl ((unhide HW).stay.alloc _) ⟨w3.heap.size,0,none⟩ 1 1 [.int .i64 (R:Int)] rfl rfl ?c1 ?c2 (by decide) ?c3 ?c4 ?c5 (w3.heap.size+1) (by simp) ?_)
  | go_in)
 all_goals try (case c1=>
  intro j u hj
  match j,hj with
  | 0,hj=>simp at hj;subst hj;simp[Addr.add,go_sem])
 all_goals try (case c2=>first | rfl | (intro u hu;simp at hu;subst hu;rfl))
 all_goals try (case c3=>have:=hTL.out;unfold maxLen;omega)
 all_goals try (case c4=>have:=hTL.out;omega)
 all_goals try (case c5=>first | omega | (simp;omega))
 intro g3 cap3 w4 hown3 hgrow3 hat3 hlt3
 have O3:Hid (OwnI w4 bT (.slice (some ⟨g3,0,none⟩) ((natI s.stay).length+1) cap3) (natI (s.stay++[R]))):=by show OwnI _ _ _ _;rw[natI_push];exact OwnI.push hown3
 have HWN:=hide ((unhide HW).hold (unhide BLK) (x:=R) hgrow3 (unhide O3) (by simpa using hat3))
 have z1:=(unhide HWN).roles.cell (i:=k) hk4
 rw[HQ.out]at z1
 have z3:=(unhide HWN).roles.lt
 clear hown3 hgrow3 hat3 O3 HW y1 y2 y3 y4 cR hgl
 go_wp2_with fail
 go_loopg [21] 0 (fun gg i wr'=>∃ d:Nat,d+gg=1∧1≤d∧i=.int .i64 d∧RdW w base g nt ct bT b1 b2 a m c ⟨op,fa,fb,fc,fd⟩ r ⟨s.types,s.taken,s.stay++[R]⟩ u10 (.slice (some ⟨g3,0,none⟩) ((natI s.stay).length+1) cap3) wr'∧Hid (∀ e,1≤e→e<d→tyAt s.types (R+e)=1))
 case atStart=>exact⟨1,by omega,by omega,rfl,unhide HWN,fun e h1 h2=>absurd h1 (by omega)⟩
 case round=>
  clear HWN z1 z3
  obtain⟨d,hd,hd1,rfl,hWN,hall⟩:=hrel
  by_cases hdm:d≤0
  ·exact absurd hdm (by omega)
  ·have SN:Hid (rdUpto r ⟨op,fa,fb,fc,fd⟩ ⟨t,[],[]⟩ (k+1)=some ⟨s.types,s.taken,s.stay++[R]⟩):=SY.out (fun e h1 h2=>hall.out e h1 (by omega))
   have y1:=hWN.roles.cell (i:=k) hk4
   rw[HQ.out]at y1
   have y3:=hWN.roles.lt
   have HWN:=hide hWN
   clear hWN hall
   go_wp2_with fail
   go_roundg (4-(k+1))
   case measure=>omega
   case rel=>exact⟨k+1,⟨s.types,s.taken,s.stay++[R]⟩,by omega,by go_num,unhide HWN,SN,LN⟩
theorem rd_pair (l:List ProtoD)(op fa fb fc fd p:Int)(r:List Nat)(t:List Int)(base g nt ct m c bT b1 b2:Nat)(a:Option Addr)(w:World)
  (BLK:Hid (RdB w base g bT b1 b2))(HR:Hid (rolesC op=some r))(hlen:nt≤250)(gk k:Nat)(s:RdS)(wr:World)(u8 u9 u10 u11 u13 u14 u15 u16 u17 u19 u20 u21 u31 u32 u33 u34 u35 u36 u37 u38 u39 u40 u41 u42 u43 u44 u45 u46 u47 u48 u49 u50 u51 u52 u53 u54 u55 u56 u57 u58 u59 u60 u61 u62 u63 u64 u65 u66 u67 u68 u69 u70 u71 u72 u73 u74 u75 u76 u77 u78 u79 u80 u81 u82 u83 u84 u85 u86 u87 u88 u89 u90 u91 u92 u93 u94 u95 u96 u97 u98 u99 u100 u101 u102 u103 u104 u105 u106 u107 u108 u109 u110 u111 u112 u113 u114 u115 u116 u117 u118 u119 u120 u121 u122 u123 u124:Value)(hk:k+gk=4)(hk4:k<4)
  (HW:Hid (RdW w base g nt ct bT b1 b2 a m c ⟨op,fa,fb,fc,fd⟩ r s u10 u11 wr))(hS:Hid (rdUpto r ⟨op,fa,fb,fc,fd⟩ ⟨t,[],[]⟩ k=some s))(hL:Hid (RdLen nt k s))(q:Nat)(x:Int)(HQ:Hid (r[k]?.getD 0=q))(HX:Hid (insF ⟨op,fa,fb,fc,fd⟩ k=x))
  (R:Nat)(W:Int)(hWq:q=20∧W=1)(hx:x=R)(hRn:R+1<nt)(hty:tyAt s.types R=W)
  (J:Nat→Act→World→Prop)(K K2:Act→World→Prop)
  (hJ:RdJ op fa fb fc fd p r t base g nt ct m c bT b1 b2 a w J)
  (hK:∀(a':Act)(w':World),Handed J gk a' w'→K a' w') :
  RdGoal l op fa fb fc fd p t base g nt ct m c b1 b2 a w k K K2 wr u8 u9 u10 u11 u13 u14 u15 u16 u17 u19 u20 u21 u31 u32 u33 u34 u35 u36 u37 u38 u39 u40 u41 u42 u43 u44 u45 u46 u47 u48 u49 u50 u51 u52 u53 u54 u55 u56 u57 u58 u59 u60 u61 u62 u63 u64 u65 u66 u67 u68 u69 u70 u71 u72 u73 u74 u75 u76 u77 u78 u79 u80 u81 u82 u83 u84 u85 u86 u87 u88 u89 u90 u91 u92 u93 u94 u95 u96 u97 u98 u99 u100 u101 u102 u103 u104 u105 u106 u107 u108 u109 u110 u111 u112 u113 u114 u115 u116 u117 u118 u119 u120 u121 u122 u123 u124:=by
 unfold RdJ at hJ
 unfold RdGoal
 obtain⟨i0,hi,hz0,hz1,hz2⟩:=info_of info_i
 have y1:=(unhide HW).roles.cell (i:=k) hk4
 rw[HQ.out]at y1
 have y2:=(unhide HW).flds.cell (i:=k) hk4
 rw[HX.out]at y2
 have y3:=(unhide HW).roles.lt
 have y4:=(unhide HW).flds.lt
 have hq21:q≤21:=by rw[←HQ.out];exact rolesC_le HR.out k
 have WA:=hide (fun W=>l6wants_any q hq21 W)
 have STEP:Hid (rdUpto r ⟨op,fa,fb,fc,fd⟩ ⟨t,[],[]⟩ (k+1)=rdF q x s):=by show _=_;rw[rdUpto_next hS.out,HQ.out,HX.out]
 have FAIL:Hid (rdF q x s=none→readC l ⟨op,fa,fb,fc,fd⟩ t=none):=fun h=>readC_none HR.out (by rw[STEP.out];exact h) (show k+1≤4 by omega)
 conv=>arg 2;whnf
 obtain⟨g',cap',hv',_,hgl,hcc⟩:=(unhide HW).types.at (by rw[←hL.out.1];omega)
 have hg':g=g':=by injection hv' with h;injection h with h;exact congrArg Addr.block h
 subst hg'
 have cR:=hcc R (by have:=hL.out.1;omega)
 subst hx
 have HM:=rdF_more (q:=q) (more:=1) (W:=W) (s:=s) (R:=R) (.inr (.inl ⟨hWq.1,hWq.2,rfl⟩)) hty
 have SF:Hid (∀ d,1≤d→d≤1→tyAt s.types (R+d)≠1→readC l ⟨op,fa,fb,fc,fd⟩ t=none):=fun d d1 d2 hd=>FAIL.out (HM.1 d d1 d2 hd)
 have SY:Hid ((∀ d,1≤d→d≤1→tyAt s.types (R+d)=1)→rdUpto r ⟨op,fa,fb,fc,fd⟩ ⟨t,[],[]⟩ (k+1)=some ⟨s.types,s.taken,s.stay++[R]⟩):=fun hd=>by rw[STEP.out];exact HM.2 hd
 have LN:Hid (RdLen nt (k+1) ⟨s.types,s.taken,s.stay++[R]⟩):=⟨hL.out.1,by have:=hL.out.2.1;show s.taken.length≤_;omega,by have:=hL.out.2.2;simp;omega⟩
 have HTY:tyAt s.types R=s.types[R]?.getD 0:=rfl
 rw[HTY]at hty
 have hw:wantsC q=(W,false):=by obtain⟨rfl,rfl⟩:=hWq;rfl
 rw[hw]at WA
 have hW0:(W==0)=false:=by obtain⟨_,rfl⟩:=hWq;rfl
 have q18:((q:Int)==18)=false:=beq_eq_false_iff_ne.2 (by omega)
 have q20:((q:Int)==20)=true:=by simp;omega
 have q19:((q:Int)==19)=false:=beq_eq_false_iff_ne.2 (by omega)
 clear hcc hv' HTY FAIL STEP HM
 generalize s.types[R]?.getD 0=ty at *
 have tb:(ty != W)=false:=by simpa using hty
 subst hty
 clear hw hWq
 have hTL:Hid ((natI s.stay).length≤1048576):=by show _≤_;rw[natI_len];have:=hL.out.2.2;omega
 have hbTs:=(unhide HW).size
 go_wp2_with fail
 refine(unhide WA _).mono ?_
 rintro e w3 ⟨rfl,rfl⟩
 go_wp2_with (first
  | (at_builtin;refine wpList_append_lies _ rfl _ _ 63 rfl bT 3 i0 (.int .i64 0) 1 8 Tryz.underlying63 hi hz0 hz1 hz2 rfl (by decide) _ _ _ rfl ((unhide HW).stay.alloc _) ⟨w3.heap.size,0,none⟩ 1 1 [.int .i64 (R:Int)] rfl rfl ?c1 ?c2 (by decide) ?c3 ?c4 ?c5 (w3.heap.size+1) (by simp) ?_)
  | go_in)
 all_goals try (case c1=>
  intro j u hj
  match j,hj with
  | 0,hj=>simp at hj;subst hj;simp[Addr.add,go_sem])
 all_goals try (case c2=>first | rfl | (intro u hu;simp at hu;subst hu;rfl))
 all_goals try (case c3=>have:=hTL.out;unfold maxLen;omega)
 all_goals try (case c4=>have:=hTL.out;omega)
 all_goals try (case c5=>first | omega | (simp;omega))
 intro g3 cap3 w4 hown3 hgrow3 hat3 hlt3
 have O3:Hid (OwnI w4 bT (.slice (some ⟨g3,0,none⟩) ((natI s.stay).length+1) cap3) (natI (s.stay++[R]))):=by show OwnI _ _ _ _;rw[natI_push];exact OwnI.push hown3
 have HWN:=hide ((unhide HW).hold (unhide BLK) (x:=R) hgrow3 (unhide O3) (by simpa using hat3))
 have z1:=(unhide HWN).roles.cell (i:=k) hk4
 rw[HQ.out]at z1
 have z3:=(unhide HWN).roles.lt
 clear hown3 hgrow3 hat3 O3 HW y1 y2 y3 y4 cR hgl
 go_wp2_with fail
 go_loopg [21] 1 (fun gg i wr'=>∃ d:Nat,d+gg=2∧1≤d∧i=.int .i64 d∧RdW w base g nt ct bT b1 b2 a m c ⟨op,fa,fb,fc,fd⟩ r ⟨s.types,s.taken,s.stay++[R]⟩ u10 (.slice (some ⟨g3,0,none⟩) ((natI s.stay).length+1) cap3) wr'∧Hid (∀ e,1≤e→e<d→tyAt s.types (R+e)=1))
 case atStart=>exact⟨1,by omega,by omega,rfl,unhide HWN,fun e h1 h2=>absurd h1 (by omega)⟩
 case round=>
  clear HWN z1 z3
  obtain⟨d,hd,hd1,rfl,hWN,hall⟩:=hrel
  by_cases hdm:d≤1
  ·obtain⟨g',cap',hv',_,hgl,hcc⟩:=hWN.types.at (by rw[show(RdS.mk s.types s.taken (s.stay++[R])).types.length=nt from hL.out.1.symm];omega)
   have hg':g'=g:=by injection hv' with h;injection h with h;exact(congrArg Addr.block h).symm
   have cD:=hcc (R+d) (by show R+d<s.types.length;have:=hL.out.1;omega)
   rw[hg']at cD hgl
   change wr.cell? ⟨g,R+d,none⟩=some (.int .i64 (s.types[R+d]?.getD 0))at cD
   have HTY:Hid (tyAt s.types (R+d)=s.types[R+d]?.getD 0):=rfl
   have HWN:=hide hWN
   clear hv' hcc hg' hWN
   generalize s.types[R+d]?.getD 0=tz at *
   by_cases htz:tz=1
   ·have NX:Hid (∀ e,1≤e→e<d+1→tyAt s.types (R+e)=1):=fun e h1 h2=>by
     by_cases c:e=d
     ·subst c;rw[HTY.out];exact htz
     ·exact hall.out e h1 (by omega)
    subst htz
    clear HTY hall
    go_wp2_with fail
    go_roundg (2-(d+1))
    case measure=>omega
    case rel=>exact⟨d+1,by omega,by omega,by go_num,unhide HWN,NX⟩
   ·have RR:Hid (readC l ⟨op,fa,fb,fc,fd⟩ t=none):=SF.out d hd1 hdm (by rw[HTY.out];exact htz)
    have tzb:(tz != 1)=true:=by simpa using htz
    clear HTY htz hall
    go_wp2_with fail
    go_ret2
    exact rd_no RR.out (unhide HWN).old
  ·have SN:Hid (rdUpto r ⟨op,fa,fb,fc,fd⟩ ⟨t,[],[]⟩ (k+1)=some ⟨s.types,s.taken,s.stay++[R]⟩):=SY.out (fun e h1 h2=>hall.out e h1 (by omega))
   have y1:=hWN.roles.cell (i:=k) hk4
   rw[HQ.out]at y1
   have y3:=hWN.roles.lt
   have HWN:=hide hWN
   clear hWN hall
   go_wp2_with fail
   go_roundg (4-(k+1))
   case measure=>omega
   case rel=>exact⟨k+1,⟨s.types,s.taken,s.stay++[R]⟩,by omega,by go_num,unhide HWN,SN,LN⟩
theorem rd_three (l:List ProtoD)(op fa fb fc fd p:Int)(r:List Nat)(t:List Int)(base g nt ct m c bT b1 b2:Nat)(a:Option Addr)(w:World)
  (BLK:Hid (RdB w base g bT b1 b2))(HR:Hid (rolesC op=some r))(hlen:nt≤250)(gk k:Nat)(s:RdS)(wr:World)(u8 u9 u10 u11 u13 u14 u15 u16 u17 u19 u20 u21 u31 u32 u33 u34 u35 u36 u37 u38 u39 u40 u41 u42 u43 u44 u45 u46 u47 u48 u49 u50 u51 u52 u53 u54 u55 u56 u57 u58 u59 u60 u61 u62 u63 u64 u65 u66 u67 u68 u69 u70 u71 u72 u73 u74 u75 u76 u77 u78 u79 u80 u81 u82 u83 u84 u85 u86 u87 u88 u89 u90 u91 u92 u93 u94 u95 u96 u97 u98 u99 u100 u101 u102 u103 u104 u105 u106 u107 u108 u109 u110 u111 u112 u113 u114 u115 u116 u117 u118 u119 u120 u121 u122 u123 u124:Value)(hk:k+gk=4)(hk4:k<4)
  (HW:Hid (RdW w base g nt ct bT b1 b2 a m c ⟨op,fa,fb,fc,fd⟩ r s u10 u11 wr))(hS:Hid (rdUpto r ⟨op,fa,fb,fc,fd⟩ ⟨t,[],[]⟩ k=some s))(hL:Hid (RdLen nt k s))(q:Nat)(x:Int)(HQ:Hid (r[k]?.getD 0=q))(HX:Hid (insF ⟨op,fa,fb,fc,fd⟩ k=x))
  (R:Nat)(W:Int)(hWq:q=18∧W=1)(hx:x=R)(hRn:R+2<nt)(hty:tyAt s.types R=W)
  (J:Nat→Act→World→Prop)(K K2:Act→World→Prop)
  (hJ:RdJ op fa fb fc fd p r t base g nt ct m c bT b1 b2 a w J)
  (hK:∀(a':Act)(w':World),Handed J gk a' w'→K a' w') :
  RdGoal l op fa fb fc fd p t base g nt ct m c b1 b2 a w k K K2 wr u8 u9 u10 u11 u13 u14 u15 u16 u17 u19 u20 u21 u31 u32 u33 u34 u35 u36 u37 u38 u39 u40 u41 u42 u43 u44 u45 u46 u47 u48 u49 u50 u51 u52 u53 u54 u55 u56 u57 u58 u59 u60 u61 u62 u63 u64 u65 u66 u67 u68 u69 u70 u71 u72 u73 u74 u75 u76 u77 u78 u79 u80 u81 u82 u83 u84 u85 u86 u87 u88 u89 u90 u91 u92 u93 u94 u95 u96 u97 u98 u99 u100 u101 u102 u103 u104 u105 u106 u107 u108 u109 u110 u111 u112 u113 u114 u115 u116 u117 u118 u119 u120 u121 u122 u123 u124:=by
 unfold RdJ at hJ
 unfold RdGoal
 obtain⟨i0,hi,hz0,hz1,hz2⟩:=info_of info_i
 have y1:=(unhide HW).roles.cell (i:=k) hk4
 rw[HQ.out]at y1
 have y2:=(unhide HW).flds.cell (i:=k) hk4
 rw[HX.out]at y2
 have y3:=(unhide HW).roles.lt
 have y4:=(unhide HW).flds.lt
 have hq21:q≤21:=by rw[←HQ.out];exact rolesC_le HR.out k
 have WA:=hide (fun W=>l6wants_any q hq21 W)
 have STEP:Hid (rdUpto r ⟨op,fa,fb,fc,fd⟩ ⟨t,[],[]⟩ (k+1)=rdF q x s):=by show _=_;rw[rdUpto_next hS.out,HQ.out,HX.out]
 have FAIL:Hid (rdF q x s=none→readC l ⟨op,fa,fb,fc,fd⟩ t=none):=fun h=>readC_none HR.out (by rw[STEP.out];exact h) (show k+1≤4 by omega)
 conv=>arg 2;whnf
 obtain⟨g',cap',hv',_,hgl,hcc⟩:=(unhide HW).types.at (by rw[←hL.out.1];omega)
 have hg':g=g':=by injection hv' with h;injection h with h;exact congrArg Addr.block h
 subst hg'
 have cR:=hcc R (by have:=hL.out.1;omega)
 subst hx
 have HM:=rdF_more (q:=q) (more:=2) (W:=W) (s:=s) (R:=R) (.inl ⟨hWq.1,hWq.2,rfl⟩) hty
 have SF:Hid (∀ d,1≤d→d≤2→tyAt s.types (R+d)≠1→readC l ⟨op,fa,fb,fc,fd⟩ t=none):=fun d d1 d2 hd=>FAIL.out (HM.1 d d1 d2 hd)
 have SY:Hid ((∀ d,1≤d→d≤2→tyAt s.types (R+d)=1)→rdUpto r ⟨op,fa,fb,fc,fd⟩ ⟨t,[],[]⟩ (k+1)=some ⟨s.types,s.taken,s.stay++[R]⟩):=fun hd=>by rw[STEP.out];exact HM.2 hd
 have LN:Hid (RdLen nt (k+1) ⟨s.types,s.taken,s.stay++[R]⟩):=⟨hL.out.1,by have:=hL.out.2.1;show s.taken.length≤_;omega,by have:=hL.out.2.2;simp;omega⟩
 have HTY:tyAt s.types R=s.types[R]?.getD 0:=rfl
 rw[HTY]at hty
 have hw:wantsC q=(W,false):=by obtain⟨rfl,rfl⟩:=hWq;rfl
 rw[hw]at WA
 have hW0:(W==0)=false:=by obtain⟨_,rfl⟩:=hWq;rfl
 have q18:((q:Int)==18)=true:=by simp;omega
 have q20:((q:Int)==20)=false:=beq_eq_false_iff_ne.2 (by omega)
 have q19:((q:Int)==19)=false:=beq_eq_false_iff_ne.2 (by omega)
 clear hcc hv' HTY FAIL STEP HM
 generalize s.types[R]?.getD 0=ty at *
 have tb:(ty != W)=false:=by simpa using hty
 subst hty
 clear hw hWq
 have hTL:Hid ((natI s.stay).length≤1048576):=by show _≤_;rw[natI_len];have:=hL.out.2.2;omega
 have hbTs:=(unhide HW).size
 go_wp2_with fail
 refine(unhide WA _).mono ?_
 rintro e w3 ⟨rfl,rfl⟩
 go_wp2_with (first
  | (at_builtin;refine wpList_append_lies _ rfl _ _ 63 rfl bT 3 i0 (.int .i64 0) 1 8 Tryz.underlying63 hi hz0 hz1 hz2 rfl (by decide) _ _ _ rfl ((unhide HW).stay.alloc _) ⟨w3.heap.size,0,none⟩ 1 1 [.int .i64 (R:Int)] rfl rfl ?c1 ?c2 (by decide) ?c3 ?c4 ?c5 (w3.heap.size+1) (by simp) ?_)
  | go_in)
 all_goals try (case c1=>
  intro j u hj
  match j,hj with
  | 0,hj=>simp at hj;subst hj;simp[Addr.add,go_sem])
 all_goals try (case c2=>first | rfl | (intro u hu;simp at hu;subst hu;rfl))
 all_goals try (case c3=>have:=hTL.out;unfold maxLen;omega)
 all_goals try (case c4=>have:=hTL.out;omega)
 all_goals try (case c5=>first | omega | (simp;omega))
 intro g3 cap3 w4 hown3 hgrow3 hat3 hlt3
 have O3:Hid (OwnI w4 bT (.slice (some ⟨g3,0,none⟩) ((natI s.stay).length+1) cap3) (natI (s.stay++[R]))):=by show OwnI _ _ _ _;rw[natI_push];exact OwnI.push hown3
 have HWN:=hide ((unhide HW).hold (unhide BLK) (x:=R) hgrow3 (unhide O3) (by simpa using hat3))
 have z1:=(unhide HWN).roles.cell (i:=k) hk4
 rw[HQ.out]at z1
 have z3:=(unhide HWN).roles.lt
 clear hown3 hgrow3 hat3 O3 HW y1 y2 y3 y4 cR hgl
 go_wp2_with fail
 go_loopg [21] 2 (fun gg i wr'=>∃ d:Nat,d+gg=3∧1≤d∧i=.int .i64 d∧RdW w base g nt ct bT b1 b2 a m c ⟨op,fa,fb,fc,fd⟩ r ⟨s.types,s.taken,s.stay++[R]⟩ u10 (.slice (some ⟨g3,0,none⟩) ((natI s.stay).length+1) cap3) wr'∧Hid (∀ e,1≤e→e<d→tyAt s.types (R+e)=1))
 case atStart=>exact⟨1,by omega,by omega,rfl,unhide HWN,fun e h1 h2=>absurd h1 (by omega)⟩
 case round=>
  clear HWN z1 z3
  obtain⟨d,hd,hd1,rfl,hWN,hall⟩:=hrel
  by_cases hdm:d≤2
  ·obtain⟨g',cap',hv',_,hgl,hcc⟩:=hWN.types.at (by rw[show(RdS.mk s.types s.taken (s.stay++[R])).types.length=nt from hL.out.1.symm];omega)
   have hg':g'=g:=by injection hv' with h;injection h with h;exact(congrArg Addr.block h).symm
   have cD:=hcc (R+d) (by show R+d<s.types.length;have:=hL.out.1;omega)
   rw[hg']at cD hgl
   change wr.cell? ⟨g,R+d,none⟩=some (.int .i64 (s.types[R+d]?.getD 0))at cD
   have HTY:Hid (tyAt s.types (R+d)=s.types[R+d]?.getD 0):=rfl
   have HWN:=hide hWN
   clear hv' hcc hg' hWN
   generalize s.types[R+d]?.getD 0=tz at *
   by_cases htz:tz=1
   ·have NX:Hid (∀ e,1≤e→e<d+1→tyAt s.types (R+e)=1):=fun e h1 h2=>by
     by_cases c:e=d
     ·subst c;rw[HTY.out];exact htz
     ·exact hall.out e h1 (by omega)
    subst htz
    clear HTY hall
    go_wp2_with fail
    go_roundg (3-(d+1))
    case measure=>omega
    case rel=>exact⟨d+1,by omega,by omega,by go_num,unhide HWN,NX⟩
   ·have RR:Hid (readC l ⟨op,fa,fb,fc,fd⟩ t=none):=SF.out d hd1 hdm (by rw[HTY.out];exact htz)
    have tzb:(tz != 1)=true:=by simpa using htz
    clear HTY htz hall
    go_wp2_with fail
    go_ret2
    exact rd_no RR.out (unhide HWN).old
  ·have SN:Hid (rdUpto r ⟨op,fa,fb,fc,fd⟩ ⟨t,[],[]⟩ (k+1)=some ⟨s.types,s.taken,s.stay++[R]⟩):=SY.out (fun e h1 h2=>hall.out e h1 (by omega))
   have y1:=hWN.roles.cell (i:=k) hk4
   rw[HQ.out]at y1
   have y3:=hWN.roles.lt
   have HWN:=hide hWN
   clear hWN hall
   go_wp2_with fail
   go_roundg (4-(k+1))
   case measure=>omega
   case rel=>exact⟨k+1,⟨s.types,s.taken,s.stay++[R]⟩,by omega,by go_num,unhide HWN,SN,LN⟩
end Go.Proofs.YtmjcpapdncfkpaaGreatDoor

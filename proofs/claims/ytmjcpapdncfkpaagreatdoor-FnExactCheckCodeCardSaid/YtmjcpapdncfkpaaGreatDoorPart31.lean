import Derived.Test.YtmjcpapdncfkpaaGreatDoorPart29
import Derived.Test.YtmjcpapdncfkpaaGreatDoorPart30
set_option linter.unusedSimpArgs false
set_option linter.unusedVariables false
set_option maxHeartbeats 16000000
set_option maxRecDepth 1000000
namespace Go.Proofs.YtmjcpapdncfkpaaGreatDoor
open Go.RowKit
theorem rd_begin (l:List ProtoD)(op fa fb fc fd p:Int)(r:List Nat)(t:List Int)(base g nt ct m c bT b1 b2:Nat)(a:Option Addr)(w:World)
  (BLK:Hid (RdB w base g bT b1 b2))(HR:Hid (rolesC op=some r))(hlen:nt≤250)(gk k:Nat)(s:RdS)(wr:World)(u8 u9 u10 u11 u13 u14 u15 u16 u17 u19 u20 u21 u31 u32 u33 u34 u35 u36 u37 u38 u39 u40 u41 u42 u43 u44 u45 u46 u47 u48 u49 u50 u51 u52 u53 u54 u55 u56 u57 u58 u59 u60 u61 u62 u63 u64 u65 u66 u67 u68 u69 u70 u71 u72 u73 u74 u75 u76 u77 u78 u79 u80 u81 u82 u83 u84 u85 u86 u87 u88 u89 u90 u91 u92 u93 u94 u95 u96 u97 u98 u99 u100 u101 u102 u103 u104 u105 u106 u107 u108 u109 u110 u111 u112 u113 u114 u115 u116 u117 u118 u119 u120 u121 u122 u123 u124:Value)(hk:k+gk=4)(hk4:k<4)
  (HW:Hid (RdW w base g nt ct bT b1 b2 a m c ⟨op,fa,fb,fc,fd⟩ r s u10 u11 wr))(hS:Hid (rdUpto r ⟨op,fa,fb,fc,fd⟩ ⟨t,[],[]⟩ k=some s))(hL:Hid (RdLen nt k s))(q:Nat)(x:Int)(HQ:Hid (r[k]?.getD 0=q))(HX:Hid (insF ⟨op,fa,fb,fc,fd⟩ k=x))
  (R:Nat)(hq:q=19)(hx:x=R)(hRn:R+1<nt)(hty:tyAt s.types R=1)
  (J:Nat→Act→World→Prop)(K K2:Act→World→Prop)
  (hJ:RdJ op fa fb fc fd p r t base g nt ct m c bT b1 b2 a w J)
  (hK:∀(a':Act)(w':World),Handed J gk a' w'→K a' w') :
  RdGoal l op fa fb fc fd p t base g nt ct m c b1 b2 a w k K K2 wr u8 u9 u10 u11 u13 u14 u15 u16 u17 u19 u20 u21 u31 u32 u33 u34 u35 u36 u37 u38 u39 u40 u41 u42 u43 u44 u45 u46 u47 u48 u49 u50 u51 u52 u53 u54 u55 u56 u57 u58 u59 u60 u61 u62 u63 u64 u65 u66 u67 u68 u69 u70 u71 u72 u73 u74 u75 u76 u77 u78 u79 u80 u81 u82 u83 u84 u85 u86 u87 u88 u89 u90 u91 u92 u93 u94 u95 u96 u97 u98 u99 u100 u101 u102 u103 u104 u105 u106 u107 u108 u109 u110 u111 u112 u113 u114 u115 u116 u117 u118 u119 u120 u121 u122 u123 u124:=by
 unfold RdJ at hJ
 unfold RdGoal
 obtain⟨i0,hi,hz0,hz1,hz2⟩:=info_of info_i
 have y1:=(unhide HW).roles.cell (i:=k) hk4
 rw[HQ.out]at y1
 have y2:=(unhide HW).flds.cell (i:=k) hk4
 rw[HX.out]at y2
 have y3:=(unhide HW).roles.lt
 have y4:=(unhide HW).flds.lt
 have hq21:q≤21:=by rw[←HQ.out];exact rolesC_le HR.out k
 have WA:=hide (fun W=>l6wants_any q hq21 W)
 have STEP:Hid (rdUpto r ⟨op,fa,fb,fc,fd⟩ ⟨t,[],[]⟩ (k+1)=rdF q x s):=by show _=_;rw[rdUpto_next hS.out,HQ.out,HX.out]
 have FAIL:Hid (rdF q x s=none→readC l ⟨op,fa,fb,fc,fd⟩ t=none):=fun h=>readC_none HR.out (by rw[STEP.out];exact h) (show k+1≤4 by omega)
 conv=>arg 2;whnf
 obtain⟨g',cap',hv',_,hgl,hcc⟩:=(unhide HW).types.at (by rw[←hL.out.1];omega)
 have hg':g=g':=by injection hv' with h;injection h with h;exact congrArg Addr.block h
 subst hg'
 have cR:=hcc R (by have:=hL.out.1;omega)
 subst hx
 have RD:=rdF_19 (x:=(R:Int)) (s:=s) hty
 rw[show((R:Nat):Int).toNat=R from rfl]at RD
 have SF:Hid (tyAt s.types (R+1)≠0→readC l ⟨op,fa,fb,fc,fd⟩ t=none):=fun hd=>FAIL.out (by rw[hq,RD,if_pos hd])
 have SY:Hid (tyAt s.types (R+1)=0→rdUpto r ⟨op,fa,fb,fc,fd⟩ ⟨t,[],[]⟩ (k+1)=some ⟨s.types,s.taken++[R],s.stay++[R]⟩):=fun hd=>by rw[STEP.out,hq,RD,if_neg (fun h=>h hd)]
 have LN:Hid (RdLen nt (k+1) ⟨s.types,s.taken++[R],s.stay++[R]⟩):=⟨hL.out.1,by have:=hL.out.2.1;simp;omega,by have:=hL.out.2.2;simp;omega⟩
 have HTY:tyAt s.types R=s.types[R]?.getD 0:=rfl
 rw[HTY]at hty
 have hw:wantsC q=(1,false):=by subst hq;rfl
 rw[hw]at WA
 have q18:((q:Int)==18)=false:=beq_eq_false_iff_ne.2 (by omega)
 have q20:((q:Int)==20)=false:=beq_eq_false_iff_ne.2 (by omega)
 have q19:((q:Int)==19)=true:=by simp;omega
 have hTT:Hid ((natI s.taken).length≤1048576):=by show _≤_;rw[natI_len];have:=hL.out.2.1;omega
 clear hcc hv' HTY FAIL STEP RD hq
 generalize s.types[R]?.getD 0=ty at *
 have tb:(ty != 1)=false:=by simpa using hty
 subst hty
 clear hw
 have hTL:Hid ((natI s.stay).length≤1048576):=by show _≤_;rw[natI_len];have:=hL.out.2.2;omega
 have hbTs:=(unhide HW).size
 go_wp2_with fail
 refine(unhide WA _).mono ?_
 rintro e w3 ⟨rfl,rfl⟩
 go_wp2_with (first
  | (at_builtin;refine wpList_append_lies _ rfl _ _ 63 rfl bT 3 i0 (.int .i64 0) 1 8 Tryz.underlying63 hi hz0 hz1 hz2 rfl (by decide) _ _ _ rfl ((unhide HW).stay.alloc _) ⟨w3.heap.size,0,none⟩ 1 1 [.int .i64 (R:Int)] rfl rfl ?c1 ?c2 (by decide) ?c3 ?c4 ?c5 (w3.heap.size+1) (by simp) ?_)
  | go_in)
 all_goals try (case c1=>
  intro j u hj
  match j,hj with
  | 0,hj=>simp at hj;subst hj;simp[Addr.add,go_sem])
 all_goals try (case c2=>first | rfl | (intro u hu;simp at hu;subst hu;rfl))
 all_goals try (case c3=>have:=hTL.out;unfold maxLen;omega)
 all_goals try (case c4=>have:=hTL.out;omega)
 all_goals try (case c5=>first | omega | (simp;omega))
 intro g3 cap3 w4 hown3 hgrow3 hat3 hlt3
 have O3:Hid (OwnI w4 bT (.slice (some ⟨g3,0,none⟩) ((natI s.stay).length+1) cap3) (natI (s.stay++[R]))):=by show OwnI _ _ _ _;rw[natI_push];exact OwnI.push hown3
 have HWN:=hide ((unhide HW).hold (unhide BLK) (x:=R) hgrow3 (unhide O3) (by simpa using hat3))
 have z1:=(unhide HWN).roles.cell (i:=k) hk4
 rw[HQ.out]at z1
 have z3:=(unhide HWN).roles.lt
 clear hown3 hgrow3 hat3 O3 HW y1 y2 y3 y4 cR hgl
 go_wp2_with fail
 go_loopg [21] 0 (fun gg i wr'=>gg=0∧i=.int .i64 1∧RdW w base g nt ct bT b1 b2 a m c ⟨op,fa,fb,fc,fd⟩ r ⟨s.types,s.taken,s.stay++[R]⟩ u10 (.slice (some ⟨g3,0,none⟩) ((natI s.stay).length+1) cap3) wr')
 case atStart=>exact⟨rfl,rfl,unhide HWN⟩
 case round=>
  clear HWN z1 z3
  obtain⟨_,rfl,hWN⟩:=hrel
  have y1:=hWN.roles.cell (i:=k) hk4
  rw[HQ.out]at y1
  have y3:=hWN.roles.lt
  obtain⟨g',cap',hv',_,hgl,hcc⟩:=hWN.types.at (by rw[show(RdS.mk s.types s.taken (s.stay++[R])).types.length=nt from hL.out.1.symm];omega)
  have hg':g'=g:=by injection hv' with h;injection h with h;exact(congrArg Addr.block h).symm
  have cD:=hcc (R+1) (by show R+1<s.types.length;have:=hL.out.1;omega)
  rw[hg']at cD hgl
  change wr.cell? ⟨g,R+1,none⟩=some (.int .i64 (s.types[R+1]?.getD 0))at cD
  have HTY:Hid (tyAt s.types (R+1)=s.types[R+1]?.getD 0):=rfl
  have hbT2:=hWN.size
  have HWN:=hide hWN
  clear hv' hcc hg' hWN
  generalize s.types[R+1]?.getD 0=tz at *
  by_cases htz:tz=0
  ·have SN:Hid (rdUpto r ⟨op,fa,fb,fc,fd⟩ ⟨t,[],[]⟩ (k+1)=some ⟨s.types,s.taken++[R],s.stay++[R]⟩):=SY.out (by rw[HTY.out];exact htz)
   subst htz
   clear HTY SF SY
   go_wp2_with (first
    | (at_builtin;refine wpList_append_lies _ rfl _ _ 63 rfl bT 3 i0 (.int .i64 0) 1 8 Tryz.underlying63 hi hz0 hz1 hz2 rfl (by decide) _ _ _ rfl ((unhide HWN).taken.alloc _) ⟨wr.heap.size,0,none⟩ 1 1 [.int .i64 (R:Int)] rfl rfl ?d1 ?d2 (by decide) ?d3 ?d4 ?d5 (wr.heap.size+1) (by simp) ?_)
    | go_in)
   all_goals try (case d1=>
    intro j u hj
    match j,hj with
    | 0,hj=>simp at hj;subst hj;simp[Addr.add,go_sem])
   all_goals try (case d2=>first | rfl | (intro u hu;simp at hu;subst hu;rfl))
   all_goals try (case d3=>have:=hTT.out;unfold maxLen;omega)
   all_goals try (case d4=>have:=hTT.out;omega)
   all_goals try (case d5=>first | omega | (simp;omega))
   intro g5 cap5 w5 hown5 hgrow5 hat5 hlt5
   have O5:Hid (OwnI w5 bT (.slice (some ⟨g5,0,none⟩) ((natI s.taken).length+1) cap5) (natI (s.taken++[R]))):=by show OwnI _ _ _ _;rw[natI_push];exact OwnI.push hown5
   have HW5:=hide ((unhide HWN).take (unhide BLK) (x:=R) hgrow5 (unhide O5) (by simpa using hat5))
   clear hown5 hgrow5 hat5 O5 HWN
   go_wp2_with fail
   go_roundg (4-(k+1))
   case measure=>omega
   case rel=>exact⟨k+1,⟨s.types,s.taken++[R],s.stay++[R]⟩,by omega,by go_num,unhide HW5,SN,LN⟩
  ·have RR:Hid (readC l ⟨op,fa,fb,fc,fd⟩ t=none):=SF.out (by rw[HTY.out];exact htz)
   have tzb:(tz != 0)=true:=by simpa using htz
   clear HTY htz SF SY
   go_wp2_with fail
   go_ret2
   exact rd_no RR.out (unhide HWN).old
def RdUps (l:List ProtoD)(n:InsD)(nt:Nat):Prop:=n.op=11→0≤n.fb∧n.fb<l.length∧∀ u,u∈(prD l n.fb.toNat).ups→u.1=true→0≤u.2∧u.2<nt
theorem wants_cases {q:Nat}(h:(wantsC q).1≠0):q=2∨q=3∨q=4∨q=5∨q=6∨q=18∨q=19∨q=20:=by
 unfold wantsC at h
 by_cases a2:q=2
 ·simp[a2]
 by_cases a3:q=3
 ·simp[a3]
 by_cases a4:q=4∨q=18∨q=19∨q=20
 ·rcases a4 with a | a | a | a<;>simp[a]
 by_cases a5:q=5
 ·simp[a5]
 by_cases a6:q=6
 ·simp[a6]
 rw[if_neg a2,if_neg a3,if_neg a4,if_neg a5,if_neg a6]at h
 exact absurd rfl h
theorem l6read_any (l:List ProtoD)(op fa fb fc fd:Int)(p:Int)(r:List Nat)(t:List Int)(base g nt ct c:Nat)(S:Nat→Prop)(a:Option Addr)(w:World)(hs:ProtosAt w S a l)(hB:∀ b,S b→b<base)(hr:rolesC op=some r)(hf:RdFits r ⟨op,fa,fb,fc,fd⟩ nt)(hu:RdUps l ⟨op,fa,fb,fc,fd⟩ nt)(hul:∀ x,x∈l→x.ups.length≤1000000)(hll:l.length≤1000000)
    (hown:OwnI w base (.slice (some ⟨g,0,none⟩) nt ct) t)(hnt:nt=t.length)(hlen:nt≤250)(h1:base≤g)(h2:g<w.heap.size) :
    Calls Tryz.prog 24 #[.agg #[.slice a l.length c],.int .i64 p,.agg #[.int .i64 op,.int .i64 fa,.int .i64 fb,.int .i64 fc,.int .i64 fd],.slice (some ⟨g,0,none⟩) nt ct] w (RdPost (readC l ⟨op,fa,fb,fc,fd⟩ t) base g nt ct w):=by
  have hA:∀ o1 o2,Below w.heap.size w ((w.alloc o1).alloc o2):=fun o1 o2=>((Below.refl _ _).alloc (Nat.le_refl _) o1).alloc (by simp) o2
  have HR:=hide hr
  have HF:=hide hf
  have HUP:=hide hu
  have HPS:=hide hs
  have HBS:=hide hB
  have HULL:=hide hul
  obtain⟨m,hm⟩:∃ m,l.length=m:=⟨_,rfl⟩
  have HM:=hide hm
  rw[hm]at hll
  rw[hm]
  have RO:=hide (fun W=>l6roles_any op W)
  rw[HR.out]at RO
  have HO:=hide hown
  have HNT:=hide hnt
  clear hr hf hown hu hs hB hul hm hnt
  go_enter Tryz.func24,Tryz.ntmps24
  go_wp2_with fail
  refine(unhide RO _).mono ?_
  rintro e w1 hF
  obtain⟨b1,rfl,hb1,hrow1,hbel1⟩:=four_open hF
  have e2:∀ o1 o2,((w.alloc o1).alloc o2).heap.size=w.heap.size+2:=fun _ _=>by simp
  rw[e2]at hb1
  replace hbel1:=hbel1.mono (Nat.le_of_eq (e2 _ _).symm)
  obtain⟨hc1,hf1⟩:=bcell (W:=(w.alloc (.cells #[.slice a m c] 31)).alloc (.cells #[.int .i64 op,.int .i64 fa,.int .i64 fb,.int .i64 fc,.int .i64 fd] 60)) (w1:=w1) (by rw[e2];exact hbel1)
  rw[e2]at hc1
  have j0:w1.cell? ⟨w.heap.size+1,0,none⟩=some (.int .i64 op):=by rw[hc1 _ _ (by omega)];simp[go_sem]
  have j1:w1.cell? ⟨w.heap.size+1,1,none⟩=some (.int .i64 fa):=by rw[hc1 _ _ (by omega)];simp[go_sem]
  have j2:w1.cell? ⟨w.heap.size+1,2,none⟩=some (.int .i64 fb):=by rw[hc1 _ _ (by omega)];simp[go_sem]
  have j3:w1.cell? ⟨w.heap.size+1,3,none⟩=some (.int .i64 fc):=by rw[hc1 _ _ (by omega)];simp[go_sem]
  have j4:w1.cell? ⟨w.heap.size+1,4,none⟩=some (.int .i64 fd):=by rw[hc1 _ _ (by omega)];simp[go_sem]
  have jc:w1.cell? ⟨w.heap.size,0,none⟩=some (.slice a m c):=by rw[hc1 _ _ (by omega)];simp[go_sem]
  have hs1:w.heap.size+1<w1.heap.size:=by have:=hbel1.size;rw[e2]at this;omega
  have HB1:Hid (Below w.heap.size w w1):=(hA _ _).trans (hbel1.mono (by omega))
  have HR1:=hide hrow1
  clear hF hrow1 hbel1 hc1 hf1 RO e2
  go_wp2_with fail
  refine(l6fields_any op fa fb fc fd w1).mono ?_
  rintro e w2 ⟨b2,rfl,hb2,hrow2,hbel2⟩
  have hs2:=hbel2.size
  obtain⟨hc2,hf2⟩:=bcell hbel2
  have hb1l:=(unhide HR1).lt
  have hb2l:=hrow2.lt
  obtain⟨bT,hbT⟩:∃ bT,bT=w2.heap.size:=⟨_,rfl⟩
  have BLK:Hid (RdB w base g bT b1 b2):=⟨h1,h2,hb1,by omega,by omega,by omega⟩
  have HBTW:Hid (w.heap.size≤bT):=by show _≤_;omega
  have W0:Hid (RdW w base g nt ct bT b1 b2 a m c ⟨op,fa,fb,fc,fd⟩ r ⟨t,[],[]⟩ (.slice none 0 0) (.slice none 0 0) w2):=
    ⟨((unhide HB1).trans (hbel2.mono (unhide HB1).size)).mono (by omega),by omega,(hc2 _ _ (by omega)).trans jc,
     ⟨(hc2 _ _ (by omega)).trans j0,(hc2 _ _ (by omega)).trans j1,(hc2 _ _ (by omega)).trans j2,(hc2 _ _ (by omega)).trans j3,(hc2 _ _ (by omega)).trans j4⟩,
     (unhide HR1).of_block (hbel2.block _ hb1l),hrow2,
     (unhide HO).below ((unhide HB1).trans (hbel2.mono (unhide HB1).size)),World.ownsRow_nil _ _ _ _,World.ownsRow_nil _ _ _ _,.inl rfl⟩
  clear hbel2 hrow2 hc2 hf2 hs2 hbT j0 j1 j2 j3 j4 jc HR1 HB1 HO hb2l hb1l
  go_wp2_with fail
  go_loopg [10,11,30] 4 (fun gg tv sv i wr=>RdRel w base g nt ct bT b1 b2 a m c ⟨op,fa,fb,fc,fd⟩ r t gg tv sv i wr)
  case atStart=>exact⟨0,⟨t,[],[]⟩,by omega,rfl,unhide W0,rfl,⟨HNT.out,by simp,by simp⟩⟩
  case round=>
    rename_i J0 K0 hJ0 hK0
    clear W0
    obtain⟨k,s,hk,rfl,hW,hS,hL⟩:=hrel
    have HW:=hide hW
    by_cases hk4:k<4
    · clear hW
      obtain⟨x,hx⟩:∃ x,insF ⟨op,fa,fb,fc,fd⟩ k=x:=⟨_,rfl⟩
      obtain⟨q,hq⟩:∃ q,r[k]?.getD 0=q:=⟨_,rfl⟩
      have HQ:=hide hq
      have HX:=hide hx
      have FF:=unhide HF k hk4
      rw[hq,hx]at FF
      clear hq hx
      by_cases hz:(wantsC q).1=0
      · exact rd_skip l op fa fb fc fd p r t base g nt ct m c bT b1 b2 a w BLK HR hlen gk k s wr u8 u9 u10 u11 u13 u14 u15 u16 u17 u19 u20 u21 u31 u32 u33 u34 u35 u36 u37 u38 u39 u40 u41 u42 u43 u44 u45 u46 u47 u48 u49 u50 u51 u52 u53 u54 u55 u56 u57 u58 u59 u60 u61 u62 u63 u64 u65 u66 u67 u68 u69 u70 u71 u72 u73 u74 u75 u76 u77 u78 u79 u80 u81 u82 u83 u84 u85 u86 u87 u88 u89 u90 u91 u92 u93 u94 u95 u96 u97 u98 u99 u100 u101 u102 u103 u104 u105 u106 u107 u108 u109 u110 u111 u112 u113 u114 u115 u116 u117 u118 u119 u120 u121 u122 u123 u124 hk hk4 HW hS hL q x HQ HX hz J0 K0 _ hJ0 hK0
      rcases wants_cases hz with c2 | c2 | c2 | c2 | c2 | c2 | c2 | c2
      · obtain⟨hx1,hx2⟩:=FF.1 (by simp[c2])
        by_cases hneg:x<0
        · obtain⟨R,hR⟩:∃ R:Nat,(-1:Int)-x=R:=⟨(-1-x).toNat,by omega⟩
          by_cases hty:tyAt s.types R=1
          · exact rd_taken l op fa fb fc fd p r t base g nt ct m c bT b1 b2 a w BLK HR hlen gk k s wr u8 u9 u10 u11 u13 u14 u15 u16 u17 u19 u20 u21 u31 u32 u33 u34 u35 u36 u37 u38 u39 u40 u41 u42 u43 u44 u45 u46 u47 u48 u49 u50 u51 u52 u53 u54 u55 u56 u57 u58 u59 u60 u61 u62 u63 u64 u65 u66 u67 u68 u69 u70 u71 u72 u73 u74 u75 u76 u77 u78 u79 u80 u81 u82 u83 u84 u85 u86 u87 u88 u89 u90 u91 u92 u93 u94 u95 u96 u97 u98 u99 u100 u101 u102 u103 u104 u105 u106 u107 u108 u109 u110 u111 u112 u113 u114 u115 u116 u117 u118 u119 u120 u121 u122 u123 u124 hk hk4 HW hS hL q x HQ HX R 1 (by simp[c2]) hneg hR (by omega) hty J0 K0 _ hJ0 hK0
          · exact rd_fail_neg l op fa fb fc fd p r t base g nt ct m c bT b1 b2 a w BLK HR hlen gk k s wr u8 u9 u10 u11 u13 u14 u15 u16 u17 u19 u20 u21 u31 u32 u33 u34 u35 u36 u37 u38 u39 u40 u41 u42 u43 u44 u45 u46 u47 u48 u49 u50 u51 u52 u53 u54 u55 u56 u57 u58 u59 u60 u61 u62 u63 u64 u65 u66 u67 u68 u69 u70 u71 u72 u73 u74 u75 u76 u77 u78 u79 u80 u81 u82 u83 u84 u85 u86 u87 u88 u89 u90 u91 u92 u93 u94 u95 u96 u97 u98 u99 u100 u101 u102 u103 u104 u105 u106 u107 u108 u109 u110 u111 u112 u113 u114 u115 u116 u117 u118 u119 u120 u121 u122 u123 u124 hk hk4 HW hS hL q x HQ HX R 1 (by subst c2;rfl) (by decide) hneg hR (by omega) hty J0 K0 _ hJ0 hK0
        · obtain⟨R,hR⟩:∃ R:Nat,x=R:=⟨x.toNat,by omega⟩
          by_cases hty:tyAt s.types R=1
          · exact rd_plain l op fa fb fc fd p r t base g nt ct m c bT b1 b2 a w BLK HR hlen gk k s wr u8 u9 u10 u11 u13 u14 u15 u16 u17 u19 u20 u21 u31 u32 u33 u34 u35 u36 u37 u38 u39 u40 u41 u42 u43 u44 u45 u46 u47 u48 u49 u50 u51 u52 u53 u54 u55 u56 u57 u58 u59 u60 u61 u62 u63 u64 u65 u66 u67 u68 u69 u70 u71 u72 u73 u74 u75 u76 u77 u78 u79 u80 u81 u82 u83 u84 u85 u86 u87 u88 u89 u90 u91 u92 u93 u94 u95 u96 u97 u98 u99 u100 u101 u102 u103 u104 u105 u106 u107 u108 u109 u110 u111 u112 u113 u114 u115 u116 u117 u118 u119 u120 u121 u122 u123 u124 hk hk4 HW hS hL q x HQ HX R 1 (by simp[c2]) hR (by omega) hty J0 K0 _ hJ0 hK0
          · exact rd_fail_pos l op fa fb fc fd p r t base g nt ct m c bT b1 b2 a w BLK HR hlen gk k s wr u8 u9 u10 u11 u13 u14 u15 u16 u17 u19 u20 u21 u31 u32 u33 u34 u35 u36 u37 u38 u39 u40 u41 u42 u43 u44 u45 u46 u47 u48 u49 u50 u51 u52 u53 u54 u55 u56 u57 u58 u59 u60 u61 u62 u63 u64 u65 u66 u67 u68 u69 u70 u71 u72 u73 u74 u75 u76 u77 u78 u79 u80 u81 u82 u83 u84 u85 u86 u87 u88 u89 u90 u91 u92 u93 u94 u95 u96 u97 u98 u99 u100 u101 u102 u103 u104 u105 u106 u107 u108 u109 u110 u111 u112 u113 u114 u115 u116 u117 u118 u119 u120 u121 u122 u123 u124 hk hk4 HW hS hL q x HQ HX R 1 true (by subst c2;rfl) (by decide) hR (by omega) hty J0 K0 _ hJ0 hK0
      · obtain⟨hx1,hx2⟩:=FF.1 (by simp[c2])
        by_cases hneg:x<0
        · obtain⟨R,hR⟩:∃ R:Nat,(-1:Int)-x=R:=⟨(-1-x).toNat,by omega⟩
          by_cases hty:tyAt s.types R=3
          · exact rd_taken l op fa fb fc fd p r t base g nt ct m c bT b1 b2 a w BLK HR hlen gk k s wr u8 u9 u10 u11 u13 u14 u15 u16 u17 u19 u20 u21 u31 u32 u33 u34 u35 u36 u37 u38 u39 u40 u41 u42 u43 u44 u45 u46 u47 u48 u49 u50 u51 u52 u53 u54 u55 u56 u57 u58 u59 u60 u61 u62 u63 u64 u65 u66 u67 u68 u69 u70 u71 u72 u73 u74 u75 u76 u77 u78 u79 u80 u81 u82 u83 u84 u85 u86 u87 u88 u89 u90 u91 u92 u93 u94 u95 u96 u97 u98 u99 u100 u101 u102 u103 u104 u105 u106 u107 u108 u109 u110 u111 u112 u113 u114 u115 u116 u117 u118 u119 u120 u121 u122 u123 u124 hk hk4 HW hS hL q x HQ HX R 3 (by simp[c2]) hneg hR (by omega) hty J0 K0 _ hJ0 hK0
          · exact rd_fail_neg l op fa fb fc fd p r t base g nt ct m c bT b1 b2 a w BLK HR hlen gk k s wr u8 u9 u10 u11 u13 u14 u15 u16 u17 u19 u20 u21 u31 u32 u33 u34 u35 u36 u37 u38 u39 u40 u41 u42 u43 u44 u45 u46 u47 u48 u49 u50 u51 u52 u53 u54 u55 u56 u57 u58 u59 u60 u61 u62 u63 u64 u65 u66 u67 u68 u69 u70 u71 u72 u73 u74 u75 u76 u77 u78 u79 u80 u81 u82 u83 u84 u85 u86 u87 u88 u89 u90 u91 u92 u93 u94 u95 u96 u97 u98 u99 u100 u101 u102 u103 u104 u105 u106 u107 u108 u109 u110 u111 u112 u113 u114 u115 u116 u117 u118 u119 u120 u121 u122 u123 u124 hk hk4 HW hS hL q x HQ HX R 3 (by subst c2;rfl) (by decide) hneg hR (by omega) hty J0 K0 _ hJ0 hK0
        · obtain⟨R,hR⟩:∃ R:Nat,x=R:=⟨x.toNat,by omega⟩
          by_cases hty:tyAt s.types R=3
          · exact rd_plain l op fa fb fc fd p r t base g nt ct m c bT b1 b2 a w BLK HR hlen gk k s wr u8 u9 u10 u11 u13 u14 u15 u16 u17 u19 u20 u21 u31 u32 u33 u34 u35 u36 u37 u38 u39 u40 u41 u42 u43 u44 u45 u46 u47 u48 u49 u50 u51 u52 u53 u54 u55 u56 u57 u58 u59 u60 u61 u62 u63 u64 u65 u66 u67 u68 u69 u70 u71 u72 u73 u74 u75 u76 u77 u78 u79 u80 u81 u82 u83 u84 u85 u86 u87 u88 u89 u90 u91 u92 u93 u94 u95 u96 u97 u98 u99 u100 u101 u102 u103 u104 u105 u106 u107 u108 u109 u110 u111 u112 u113 u114 u115 u116 u117 u118 u119 u120 u121 u122 u123 u124 hk hk4 HW hS hL q x HQ HX R 3 (by simp[c2]) hR (by omega) hty J0 K0 _ hJ0 hK0
          · exact rd_fail_pos l op fa fb fc fd p r t base g nt ct m c bT b1 b2 a w BLK HR hlen gk k s wr u8 u9 u10 u11 u13 u14 u15 u16 u17 u19 u20 u21 u31 u32 u33 u34 u35 u36 u37 u38 u39 u40 u41 u42 u43 u44 u45 u46 u47 u48 u49 u50 u51 u52 u53 u54 u55 u56 u57 u58 u59 u60 u61 u62 u63 u64 u65 u66 u67 u68 u69 u70 u71 u72 u73 u74 u75 u76 u77 u78 u79 u80 u81 u82 u83 u84 u85 u86 u87 u88 u89 u90 u91 u92 u93 u94 u95 u96 u97 u98 u99 u100 u101 u102 u103 u104 u105 u106 u107 u108 u109 u110 u111 u112 u113 u114 u115 u116 u117 u118 u119 u120 u121 u122 u123 u124 hk hk4 HW hS hL q x HQ HX R 3 true (by subst c2;rfl) (by decide) hR (by omega) hty J0 K0 _ hJ0 hK0
      · obtain⟨hx1,hx2⟩:=FF.2.1 (by simp[c2])
        obtain⟨R,hR⟩:∃ R:Nat,x=R:=⟨x.toNat,by omega⟩
        by_cases hty:tyAt s.types R=1
        · exact rd_place l op fa fb fc fd p r t base g nt ct m c bT b1 b2 a w BLK HR hlen gk k s wr u8 u9 u10 u11 u13 u14 u15 u16 u17 u19 u20 u21 u31 u32 u33 u34 u35 u36 u37 u38 u39 u40 u41 u42 u43 u44 u45 u46 u47 u48 u49 u50 u51 u52 u53 u54 u55 u56 u57 u58 u59 u60 u61 u62 u63 u64 u65 u66 u67 u68 u69 u70 u71 u72 u73 u74 u75 u76 u77 u78 u79 u80 u81 u82 u83 u84 u85 u86 u87 u88 u89 u90 u91 u92 u93 u94 u95 u96 u97 u98 u99 u100 u101 u102 u103 u104 u105 u106 u107 u108 u109 u110 u111 u112 u113 u114 u115 u116 u117 u118 u119 u120 u121 u122 u123 u124 hk hk4 HW hS hL q x HQ HX R 1 (by simp[c2]) hR (by omega) hty J0 K0 _ hJ0 hK0
        · exact rd_fail_pos l op fa fb fc fd p r t base g nt ct m c bT b1 b2 a w BLK HR hlen gk k s wr u8 u9 u10 u11 u13 u14 u15 u16 u17 u19 u20 u21 u31 u32 u33 u34 u35 u36 u37 u38 u39 u40 u41 u42 u43 u44 u45 u46 u47 u48 u49 u50 u51 u52 u53 u54 u55 u56 u57 u58 u59 u60 u61 u62 u63 u64 u65 u66 u67 u68 u69 u70 u71 u72 u73 u74 u75 u76 u77 u78 u79 u80 u81 u82 u83 u84 u85 u86 u87 u88 u89 u90 u91 u92 u93 u94 u95 u96 u97 u98 u99 u100 u101 u102 u103 u104 u105 u106 u107 u108 u109 u110 u111 u112 u113 u114 u115 u116 u117 u118 u119 u120 u121 u122 u123 u124 hk hk4 HW hS hL q x HQ HX R 1 false (by subst c2;rfl) (by decide) hR (by omega) hty J0 K0 _ hJ0 hK0
      · obtain⟨hx1,hx2⟩:=FF.2.1 (by simp[c2])
        obtain⟨R,hR⟩:∃ R:Nat,x=R:=⟨x.toNat,by omega⟩
        by_cases hty:tyAt s.types R=2
        · exact rd_place l op fa fb fc fd p r t base g nt ct m c bT b1 b2 a w BLK HR hlen gk k s wr u8 u9 u10 u11 u13 u14 u15 u16 u17 u19 u20 u21 u31 u32 u33 u34 u35 u36 u37 u38 u39 u40 u41 u42 u43 u44 u45 u46 u47 u48 u49 u50 u51 u52 u53 u54 u55 u56 u57 u58 u59 u60 u61 u62 u63 u64 u65 u66 u67 u68 u69 u70 u71 u72 u73 u74 u75 u76 u77 u78 u79 u80 u81 u82 u83 u84 u85 u86 u87 u88 u89 u90 u91 u92 u93 u94 u95 u96 u97 u98 u99 u100 u101 u102 u103 u104 u105 u106 u107 u108 u109 u110 u111 u112 u113 u114 u115 u116 u117 u118 u119 u120 u121 u122 u123 u124 hk hk4 HW hS hL q x HQ HX R 2 (by simp[c2]) hR (by omega) hty J0 K0 _ hJ0 hK0
        · exact rd_fail_pos l op fa fb fc fd p r t base g nt ct m c bT b1 b2 a w BLK HR hlen gk k s wr u8 u9 u10 u11 u13 u14 u15 u16 u17 u19 u20 u21 u31 u32 u33 u34 u35 u36 u37 u38 u39 u40 u41 u42 u43 u44 u45 u46 u47 u48 u49 u50 u51 u52 u53 u54 u55 u56 u57 u58 u59 u60 u61 u62 u63 u64 u65 u66 u67 u68 u69 u70 u71 u72 u73 u74 u75 u76 u77 u78 u79 u80 u81 u82 u83 u84 u85 u86 u87 u88 u89 u90 u91 u92 u93 u94 u95 u96 u97 u98 u99 u100 u101 u102 u103 u104 u105 u106 u107 u108 u109 u110 u111 u112 u113 u114 u115 u116 u117 u118 u119 u120 u121 u122 u123 u124 hk hk4 HW hS hL q x HQ HX R 2 false (by subst c2;rfl) (by decide) hR (by omega) hty J0 K0 _ hJ0 hK0
      · obtain⟨hx1,hx2⟩:=FF.2.1 (by simp[c2])
        obtain⟨R,hR⟩:∃ R:Nat,x=R:=⟨x.toNat,by omega⟩
        by_cases hty:tyAt s.types R=3
        · exact rd_place l op fa fb fc fd p r t base g nt ct m c bT b1 b2 a w BLK HR hlen gk k s wr u8 u9 u10 u11 u13 u14 u15 u16 u17 u19 u20 u21 u31 u32 u33 u34 u35 u36 u37 u38 u39 u40 u41 u42 u43 u44 u45 u46 u47 u48 u49 u50 u51 u52 u53 u54 u55 u56 u57 u58 u59 u60 u61 u62 u63 u64 u65 u66 u67 u68 u69 u70 u71 u72 u73 u74 u75 u76 u77 u78 u79 u80 u81 u82 u83 u84 u85 u86 u87 u88 u89 u90 u91 u92 u93 u94 u95 u96 u97 u98 u99 u100 u101 u102 u103 u104 u105 u106 u107 u108 u109 u110 u111 u112 u113 u114 u115 u116 u117 u118 u119 u120 u121 u122 u123 u124 hk hk4 HW hS hL q x HQ HX R 3 (by simp[c2]) hR (by omega) hty J0 K0 _ hJ0 hK0
        · exact rd_fail_pos l op fa fb fc fd p r t base g nt ct m c bT b1 b2 a w BLK HR hlen gk k s wr u8 u9 u10 u11 u13 u14 u15 u16 u17 u19 u20 u21 u31 u32 u33 u34 u35 u36 u37 u38 u39 u40 u41 u42 u43 u44 u45 u46 u47 u48 u49 u50 u51 u52 u53 u54 u55 u56 u57 u58 u59 u60 u61 u62 u63 u64 u65 u66 u67 u68 u69 u70 u71 u72 u73 u74 u75 u76 u77 u78 u79 u80 u81 u82 u83 u84 u85 u86 u87 u88 u89 u90 u91 u92 u93 u94 u95 u96 u97 u98 u99 u100 u101 u102 u103 u104 u105 u106 u107 u108 u109 u110 u111 u112 u113 u114 u115 u116 u117 u118 u119 u120 u121 u122 u123 u124 hk hk4 HW hS hL q x HQ HX R 3 false (by subst c2;rfl) (by decide) hR (by omega) hty J0 K0 _ hJ0 hK0
      · obtain⟨hx1,hx2⟩:=FF.2.2.1 (by simp[c2])
        obtain⟨R,hR⟩:∃ R:Nat,x=R:=⟨x.toNat,by omega⟩
        by_cases hty:tyAt s.types R=1
        · exact rd_three l op fa fb fc fd p r t base g nt ct m c bT b1 b2 a w BLK HR hlen gk k s wr u8 u9 u10 u11 u13 u14 u15 u16 u17 u19 u20 u21 u31 u32 u33 u34 u35 u36 u37 u38 u39 u40 u41 u42 u43 u44 u45 u46 u47 u48 u49 u50 u51 u52 u53 u54 u55 u56 u57 u58 u59 u60 u61 u62 u63 u64 u65 u66 u67 u68 u69 u70 u71 u72 u73 u74 u75 u76 u77 u78 u79 u80 u81 u82 u83 u84 u85 u86 u87 u88 u89 u90 u91 u92 u93 u94 u95 u96 u97 u98 u99 u100 u101 u102 u103 u104 u105 u106 u107 u108 u109 u110 u111 u112 u113 u114 u115 u116 u117 u118 u119 u120 u121 u122 u123 u124 hk hk4 HW hS hL q x HQ HX R 1 (by simp[c2]) hR (by omega) hty J0 K0 _ hJ0 hK0
        · exact rd_fail_pos l op fa fb fc fd p r t base g nt ct m c bT b1 b2 a w BLK HR hlen gk k s wr u8 u9 u10 u11 u13 u14 u15 u16 u17 u19 u20 u21 u31 u32 u33 u34 u35 u36 u37 u38 u39 u40 u41 u42 u43 u44 u45 u46 u47 u48 u49 u50 u51 u52 u53 u54 u55 u56 u57 u58 u59 u60 u61 u62 u63 u64 u65 u66 u67 u68 u69 u70 u71 u72 u73 u74 u75 u76 u77 u78 u79 u80 u81 u82 u83 u84 u85 u86 u87 u88 u89 u90 u91 u92 u93 u94 u95 u96 u97 u98 u99 u100 u101 u102 u103 u104 u105 u106 u107 u108 u109 u110 u111 u112 u113 u114 u115 u116 u117 u118 u119 u120 u121 u122 u123 u124 hk hk4 HW hS hL q x HQ HX R 1 false (by subst c2;rfl) (by decide) hR (by omega) hty J0 K0 _ hJ0 hK0
      · obtain⟨hx1,hx2⟩:=FF.2.2.2 (by simp[c2])
        obtain⟨R,hR⟩:∃ R:Nat,x=R:=⟨x.toNat,by omega⟩
        by_cases hty:tyAt s.types R=1
        · exact rd_begin l op fa fb fc fd p r t base g nt ct m c bT b1 b2 a w BLK HR hlen gk k s wr u8 u9 u10 u11 u13 u14 u15 u16 u17 u19 u20 u21 u31 u32 u33 u34 u35 u36 u37 u38 u39 u40 u41 u42 u43 u44 u45 u46 u47 u48 u49 u50 u51 u52 u53 u54 u55 u56 u57 u58 u59 u60 u61 u62 u63 u64 u65 u66 u67 u68 u69 u70 u71 u72 u73 u74 u75 u76 u77 u78 u79 u80 u81 u82 u83 u84 u85 u86 u87 u88 u89 u90 u91 u92 u93 u94 u95 u96 u97 u98 u99 u100 u101 u102 u103 u104 u105 u106 u107 u108 u109 u110 u111 u112 u113 u114 u115 u116 u117 u118 u119 u120 u121 u122 u123 u124 hk hk4 HW hS hL q x HQ HX R c2 hR (by omega) hty J0 K0 _ hJ0 hK0
        · exact rd_fail_pos l op fa fb fc fd p r t base g nt ct m c bT b1 b2 a w BLK HR hlen gk k s wr u8 u9 u10 u11 u13 u14 u15 u16 u17 u19 u20 u21 u31 u32 u33 u34 u35 u36 u37 u38 u39 u40 u41 u42 u43 u44 u45 u46 u47 u48 u49 u50 u51 u52 u53 u54 u55 u56 u57 u58 u59 u60 u61 u62 u63 u64 u65 u66 u67 u68 u69 u70 u71 u72 u73 u74 u75 u76 u77 u78 u79 u80 u81 u82 u83 u84 u85 u86 u87 u88 u89 u90 u91 u92 u93 u94 u95 u96 u97 u98 u99 u100 u101 u102 u103 u104 u105 u106 u107 u108 u109 u110 u111 u112 u113 u114 u115 u116 u117 u118 u119 u120 u121 u122 u123 u124 hk hk4 HW hS hL q x HQ HX R 1 false (by subst c2;rfl) (by decide) hR (by omega) hty J0 K0 _ hJ0 hK0
      · obtain⟨hx1,hx2⟩:=FF.2.2.2 (by simp[c2])
        obtain⟨R,hR⟩:∃ R:Nat,x=R:=⟨x.toNat,by omega⟩
        by_cases hty:tyAt s.types R=1
        · exact rd_pair l op fa fb fc fd p r t base g nt ct m c bT b1 b2 a w BLK HR hlen gk k s wr u8 u9 u10 u11 u13 u14 u15 u16 u17 u19 u20 u21 u31 u32 u33 u34 u35 u36 u37 u38 u39 u40 u41 u42 u43 u44 u45 u46 u47 u48 u49 u50 u51 u52 u53 u54 u55 u56 u57 u58 u59 u60 u61 u62 u63 u64 u65 u66 u67 u68 u69 u70 u71 u72 u73 u74 u75 u76 u77 u78 u79 u80 u81 u82 u83 u84 u85 u86 u87 u88 u89 u90 u91 u92 u93 u94 u95 u96 u97 u98 u99 u100 u101 u102 u103 u104 u105 u106 u107 u108 u109 u110 u111 u112 u113 u114 u115 u116 u117 u118 u119 u120 u121 u122 u123 u124 hk hk4 HW hS hL q x HQ HX R 1 (by simp[c2]) hR (by omega) hty J0 K0 _ hJ0 hK0
        · exact rd_fail_pos l op fa fb fc fd p r t base g nt ct m c bT b1 b2 a w BLK HR hlen gk k s wr u8 u9 u10 u11 u13 u14 u15 u16 u17 u19 u20 u21 u31 u32 u33 u34 u35 u36 u37 u38 u39 u40 u41 u42 u43 u44 u45 u46 u47 u48 u49 u50 u51 u52 u53 u54 u55 u56 u57 u58 u59 u60 u61 u62 u63 u64 u65 u66 u67 u68 u69 u70 u71 u72 u73 u74 u75 u76 u77 u78 u79 u80 u81 u82 u83 u84 u85 u86 u87 u88 u89 u90 u91 u92 u93 u94 u95 u96 u97 u98 u99 u100 u101 u102 u103 u104 u105 u106 u107 u108 u109 u110 u111 u112 u113 u114 u115 u116 u117 u118 u119 u120 u121 u122 u123 u124 hk hk4 HW hS hL q x HQ HX R 1 false (by subst c2;rfl) (by decide) hR (by omega) hty J0 K0 _ hJ0 hK0
    · have hk44:k=4:=by omega
      have RS:Hid (readC l ⟨op,fa,fb,fc,fd⟩ t=if op=11∧((prD l fb.toNat).ups.any fun u=>u.1&&tyAt s.types u.2.toNat != 2)=true then none else some s):=by
        show _=_
        unfold readC
        have e:(rolesC (InsD.mk op fa fb fc fd).op).getD []=r:=by show(rolesC op).getD []=r;rw[HR.out];rfl
        have e4:=hS.out
        rw[hk44]at e4
        rw[e,e4]
      have c0:=hW.ins.op
      have cb:=hW.ins.fb
      have cc:=hW.code
      have sz:=hW.size
      have hbw:=HBTW.out
      have zz:w.heap.size+1<wr.heap.size:=World.block_lt_of_cell? _ _ c0
      rw[Nat.zero_add]at cb
      clear hW HF
      have OUT:Hid (∀ w',RdW w base g nt ct bT b1 b2 a m c ⟨op,fa,fb,fc,fd⟩ r s u10 u11 w'→readC l ⟨op,fa,fb,fc,fd⟩ t=some s→RdPost (readC l ⟨op,fa,fb,fc,fd⟩ t) base g nt ct w (.returned (.tuple #[u10,.bool true])) w'):=fun w' h1 h2=>
        ⟨u10,true,rfl,fun _=>⟨s,h2,h1.types,h1.taken.base_le HBTW.out⟩,fun h=>Bool.noConfusion h,h1.old⟩
      by_cases hop:op=11
      · obtain⟨f0,f1,hups⟩:=HUP.out hop
        change 0≤fb at f0
        change fb<l.length at f1
        obtain⟨F,rfl⟩:=Int.eq_ofNat_of_zero_le f0
        have hFl:F<l.length:=by omega
        obtain⟨pb,po,rfl,hpb,hpc⟩:=(unhide HPS).2 (by omega)
        have PC:=hpc F hFl
        obtain⟨ua,uc,hua0,huI⟩:=PC.ups
        have hua:=((unhide HW).old.cell (p:=⟨pb,po+F * 9+5,none⟩) (unhide HBS pb hpb)).trans hua0
        clear hua0
        have hprd:prD l F=l[F]?.getD ProtoD.z:=rfl
        have hmem:(l[F]?.getD ProtoD.z)∈l:=by rw[List.getElem?_eq_getElem hFl];exact List.getElem_mem hFl
        have hul:=unhide HULL _ hmem
        change ∀ u,u∈(prD l F).ups→u.1=true→0≤u.2∧u.2<nt at hups
        rw[hprd]at hups
        have RS2:Hid (readC l ⟨op,fa,(F:Int),fc,fd⟩ t=if((l[F]?.getD ProtoD.z).ups.any fun u=>u.1&&tyAt s.types u.2.toNat != 2)=true then none else some s):=by
          show _=_
          rw[RS.out,hop]
          simp only[true_and]
          rfl
        have hpbs:pb<wr.heap.size:=Nat.lt_of_lt_of_le (Nat.lt_of_lt_of_le (unhide HBS pb hpb) (by omega)) (Nat.le_trans HBTW.out (unhide HW).size)
        have HUI:=hide huI
        have HUPS:=hide hups
        have hFm:(F:Int)<m:=by have:=HM.out;omega
        have hFm0:(0:Int)≤(F:Int):=by omega
        have ob:(op==11)=true:=by simpa using hop
        clear RS hpc PC huI hups hprd hmem f0 f1 hop HUP
        generalize (l[F]?.getD ProtoD.z).ups=us at *
        go_wp2_with fail
        go_loopg [136] us.length (fun gg i wr'=>∃ q:Nat,q+gg=us.length∧i=.int .i64 q∧RdW w base g nt ct bT b1 b2 (some ⟨pb,po,none⟩) m c ⟨op,fa,(F:Int),fc,fd⟩ r s u10 u11 wr'∧Hid (∀ j,j<q→((us[j]?.getD (false,0)).1&&tyAt s.types (us[j]?.getD (false,0)).2.toNat != 2)=false))
        case atStart=>exact⟨0,by omega,rfl,unhide HW,fun j h=>absurd h (Nat.not_lt_zero _)⟩
        case round=>
          clear HW c0 cb cc hua hpbs
          obtain⟨q,hq,rfl,hW,hall⟩:=hrel
          have zz:w.heap.size+1<wr.heap.size:=World.block_lt_of_cell? _ _ hW.ins.op
          by_cases hql:q<us.length
          · obtain⟨ub,uo,rfl,hub,huc⟩:=((unhide HUI).keep hW.old (unhide HBS)).2 (by omega)
            obtain⟨e0,e1⟩:=huc q hql
            have hmem:us[q]?.getD (false,0)∈us:=by rw[List.getElem?_eq_getElem hql];exact List.getElem_mem hql
            have HUq:=hide (unhide HUPS _ hmem)
            have hubs:ub<wr.heap.size:=Nat.lt_of_lt_of_le (Nat.lt_of_lt_of_le (unhide HBS ub hub) (by omega)) (Nat.le_trans HBTW.out hW.size)
            have NX:Hid (((us[q]?.getD (false,0)).1&&tyAt s.types (us[q]?.getD (false,0)).2.toNat != 2)=false→∀ j,j<q+1→((us[j]?.getD (false,0)).1&&tyAt s.types (us[j]?.getD (false,0)).2.toNat != 2)=false):=fun h j hj=>by
              by_cases e:j=q
              · subst e;exact h
              · exact hall.out j (by omega)
            have YES:Hid (((us[q]?.getD (false,0)).1&&tyAt s.types (us[q]?.getD (false,0)).2.toNat != 2)=true→readC l ⟨op,fa,(F:Int),fc,fd⟩ t=none):=fun h=>by
              rw[RS2.out,if_pos]
              rw[List.any_eq_true]
              exact⟨_,hmem,h⟩
            clear huc hall hmem
            generalize us[q]?.getD (false,0)=u at *
            obtain⟨loc,ix⟩:=u
            dsimp only at *
            have HW:=hide hW
            have HWA:=hide (hW.below (unhide BLK) ((Below.refl _ _).alloc (Nat.le_refl _) (.cells #[.bool loc,.int .i64 ix] 105)))
            cases loc
            · have NX2:=hide (unhide NX rfl)
              clear NX YES hW
              go_wp2_with fail
              go_roundg (us.length-(q+1))
              case measure=>omega
              case rel=>exact⟨q+1,by omega,by go_num,unhide HWA,NX2⟩
            · obtain⟨i0,i1⟩:=unhide HUq rfl
              obtain⟨X,rfl⟩:=Int.eq_ofNat_of_zero_le i0
              obtain⟨g',cap',hv',_,hgl,hcc⟩:=hW.types.at (by rw[←hL.out.1];omega)
              have hg':g'=g:=by injection hv' with h;injection h with h;exact(congrArg Addr.block h).symm
              have cX:=hcc X (by have:=hL.out.1;omega)
              rw[hg']at cX hgl
              have HTY:Hid (tyAt s.types X=s.types[X]?.getD 0):=rfl
              rw[show((X:Nat):Int).toNat=X from rfl,HTY.out]at NX YES
              have hXn:X<nt:=by omega
              clear hW hv' hcc hg' HTY
              generalize s.types[X]?.getD 0=tx at *
              by_cases htx:tx=2
              · subst htx
                have NX2:=hide (unhide NX (by decide))
                clear NX YES
                go_wp2_with fail
                go_roundg (us.length-(q+1))
                case measure=>omega
                case rel=>exact⟨q+1,by omega,by go_num,unhide HWA,NX2⟩
              · have RR:Hid (readC l ⟨op,fa,(F:Int),fc,fd⟩ t=none):=unhide YES (by simpa using htx)
                have txb:(tx != 2)=true:=by simpa using htx
                clear NX YES htx
                go_wp2_with fail
                go_ret2
                exact rd_no RR.out (unhide HWA).old
          · have RR:Hid (readC l ⟨op,fa,(F:Int),fc,fd⟩ t=some s):=by
              show _=_
              rw[RS2.out,if_neg]
              rw[List.any_eq_true]
              rintro⟨u,hu,h⟩
              obtain⟨j,hj,rfl⟩:=List.getElem_of_mem hu
              have:=hall.out j (by omega)
              rw[List.getElem?_eq_getElem hj]at this
              rw[show(some us[j]).getD (false,0)=us[j]from rfl,h]at this
              cases this
            have HW:=hide hW
            clear hW hall RS2
            go_wp2_with fail
            go_ret2
            exact OUT.out _ (unhide HW) RR.out
      · have RR:Hid (readC l ⟨op,fa,fb,fc,fd⟩ t=some s):=by show _=_;rw[RS.out,if_neg (fun h=>hop h.1)]
        have ob:(op==11)=false:=by simpa using hop
        clear RS hop
        go_wp2_with fail
        go_ret2
        exact OUT.out _ (unhide HW) RR.out
end Go.Proofs.YtmjcpapdncfkpaaGreatDoor

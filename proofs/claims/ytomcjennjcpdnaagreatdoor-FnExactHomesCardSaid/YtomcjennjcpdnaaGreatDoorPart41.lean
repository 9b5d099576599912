import Derived.Test.YtomcjennjcpdnaaGreatDoorPart33
set_option linter.unusedSimpArgs false
set_option linter.unusedVariables false
set_option maxHeartbeats 16000000
namespace Go.Proofs.YtomcjennjcpdnaaGreatDoor
set_option maxRecDepth 100000
set_option maxHeartbeats 4000000
open Go.RowKit
attribute [local go_sem] run_store_float
theorem each8 {F:CF}{l:List FnD}{f:Nat}{S:Nat->Prop}(U:UOk F l f S)(X:CX)(n:NodeD)(c1 b3 o3 b2 o2 c2 R k0 k1:Nat)(w:World)(h:CC F X w)(ek:n.kind=8)(hlk:n.kids=[(k0:Int),(k1:Int)])(r1:IntsAt w S (some ⟨b3,o3,none⟩) n.refs)(hr:n.refs.length=R)(r2:IntsAt w S (some ⟨b2,o2,none⟩) n.kids)
  (I0:OneOk F (fnD l f).nodes k0)(I1:BlkOk F (fnD l f).nodes k1)(hrf:refsOk F n.refs)(hm:MOrd X.ms X.top)(B:Bud X (Wt (fnD l f).nodes k0+Wt (fnD l f).nodes k1+(R+3))) :
  Calls Tryz.prog 85 #[.pointer (some ⟨F.cb,0,none⟩),.agg #[.int .i64 8,.int .i64 n.line,.int .i64 n.op,.int .i64 n.num,.float .f64 n.flt,.string n.str,.slice (some ⟨b3,o3,none⟩) R c1,.slice (some ⟨b2,o2,none⟩) 2 c2]] w (CPost F X w (.tuple #[]) X.top (hF (fnD l f).nodes k1 (X.top+3+R) (settleF X.home n.refs (X.top+3))) (2000000 * (Wt (fnD l f).nodes k0+Wt (fnD l f).nodes k1)+(4000040+4 * R))):=by
 have t0:=B.t0;have t1:X.top<=2000000:=by have:=B.t1;omega
 have hl:n.kids.length=2:=by rw[hlk];rfl
 have N1:=hide (NBox.new (p1:=c1) (p2:=c2) ek hr hl U h r1 r2);have HU:=hide U;have H:=hide h;have HB:=hide B;have HM:=hide hm;have I0:=hide I0;have I1:=hide I1;have hrf:=hide hrf;obtain⟨W1,hW1⟩:∃ W1:World,W1=w.alloc (.cells #[.int .i64 8,.int .i64 n.line,.int .i64 n.op,.int .i64 n.num,.float .f64 n.flt,.string n.str,.slice (some ⟨b3,o3,none⟩) R c1,.slice (some ⟨b2,o2,none⟩) 2 c2] 97):=⟨_,rfl⟩;have F1:Hid (Fr X.O X.O w W1):=by show Fr _ _ _ _;rw[hW1];exact Fr.refl.alloc _
 have K1:Hid (Cur F X W1 S w.heap.size n (some ⟨b3,o3,none⟩) c1 (some ⟨b2,o2,none⟩) c2 X.ms X.top X.home 0 X W1):=by show Cur _ _ _ _ _ _ _ _ _ _ _ _ _ _ _ _;rw[hW1];exact Cur.start U (h.alloc _) N1.out B.nk
 have HW1:=hide hW1;clear h B U r1 r2 hm hW1 N1;generalize hw0:Wt (fnD l f).nodes k0=V0 at *;generalize hw1:Wt (fnD l f).nodes k1=V1 at *;have E0:=hide hw0;have E1:=hide hw1;clear hw0 hw1;have kid:Hid (∀{ms t hh d Y w'},Cur F X W1 S w.heap.size n (some ⟨b3,o3,none⟩) c1 (some ⟨b2,o2,none⟩) c2 ms t hh d Y w'->w'.cell? ⟨w.heap.size,7,none⟩=some (.slice (some ⟨b2,o2,none⟩) 2 c2)/\w'.cell? ⟨w.heap.size,1,none⟩=some (.int .i64 n.line)/\w'.cell? ⟨b2,o2,none⟩=some (.int .i64 (k0:Int))/\w'.cell? ⟨b2,o2+1,none⟩=some (.int .i64 (k1:Int))):=fun K=>by
  have q7:=K.nb.c7;rw[hl]at q7;have q0:=K.nb.kids.cellAt (j:=0) (by omega);have q1:=K.nb.kids.cellAt (j:=1) (by omega);simp only[hlk,List.getElem?_cons_succ,List.getElem?_cons_zero,Option.getD_some,Nat.add_zero]at q0 q1;exact⟨q7,K.nb.c1,q0,q1⟩
 have rfs:Hid (∀{ms t hh d Y w'},Cur F X W1 S w.heap.size n (some ⟨b3,o3,none⟩) c1 (some ⟨b2,o2,none⟩) c2 ms t hh d Y w'->w'.cell? ⟨w.heap.size,6,none⟩=some (.slice (some ⟨b3,o3,none⟩) R c1)):=fun K=>by
  have q6:=K.nb.c6;rw[hr]at q6;exact q6
 have HR:=hide hr;have hR2:R<=2000000:=by have:=HB.out.t1;omega
 go_enter Tryz.func85,Tryz.ntmps85
 go_upto_region 1 with fail
 rw[<-HW1.out];obtain⟨q7,qL,q0,q1⟩:=kid.out K1.out;have q6:=rfs.out K1.out;go_wp2_with fail
 refine(I0.out X _ K1.out.c (by rw[E0.out];exact⟨by rw[K1.out.top];omega,by rw[K1.out.top];have:=HB.out.t1;omega,by rw[K1.out.ms];have:=HB.out.m1;omega,by have:=K1.out.n2;have:=HB.out.n1;omega,K1.out.nk⟩)).mono ?_;rw[E0.out,K1.out.top,K1.out.home];rintro e w2 P;obtain⟨X2,rfl,K2,jj,gg⟩:=K1.out.step HU.out P
 try clear q7 qL q0 q1 q6
 obtain⟨q7,qL,q0,q1⟩:=kid.out K2;have q6:=rfs.out K2;have K2:=hide K2;clear P jj gg;go_wp2_with fail
 refine(push_c F X2 _ K2.out.c (by rw[K2.out.top];omega) (by rw[K2.out.top];omega) K2.out.nk).mono ?_
 try rw[K2.out.top]
 try rw[K2.out.home]
 rintro e w3 P;obtain⟨X3,rfl,K3,jj,gg⟩:=K2.out.step HU.out P
 try clear q7 qL q0 q1 q6
 obtain⟨q7,qL,q0,q1⟩:=kid.out K3;have q6:=rfs.out K3;have K3:=hide K3;clear P jj gg;have K3:=hide (by have q:=K3.out;rw[show X.top+1+1=X.top+2 by omega]at q;exact q);go_wp2_with fail
 refine(put_c F X3 _ _ _ _ _ _ K3.out.c (by have:=K3.out.n2;have:=HB.out.n1;omega) K3.out.nk).mono ?_;rintro e w4 P;obtain⟨X4,rfl,K4,jj,gg⟩:=K3.out.put HU.out P
 try clear q7 qL q0 q1 q6
 obtain⟨q7,qL,q0,q1⟩:=kid.out K4;have q6:=rfs.out K4;have K4:=hide K4;clear P jj gg;go_wp2_with fail
 refine(mark_any F X4 ⟨4,false,X.top+2⟩ _ K4.out.c (by rw[K4.out.ms];have:=HB.out.m1;omega)).mono ?_;rintro e w5 P;obtain⟨X5,rfl,K5,jj⟩:=K4.out.mark HU.out P
 try clear q7 qL q0 q1 q6
 obtain⟨q7,qL,q0,q1⟩:=kid.out K5;have q6:=rfs.out K5;have K5:=hide K5;clear P jj;go_wp2_with fail
 refine(put_c F X5 _ _ _ _ _ _ K5.out.c (by have:=K5.out.n2;have:=HB.out.n1;omega) K5.out.nk).mono ?_;rintro e w6 P;obtain⟨X6,rfl,K6,jj,gg⟩:=K5.out.put HU.out P
 try clear q7 qL q0 q1 q6
 obtain⟨q7,qL,q0,q1⟩:=kid.out K6;have q6:=rfs.out K6;have T0:Hid (X5.n<X6.n):=jj;have K6:=hide K6;clear P jj gg;go_wp2_with fail
 refine(push_c F X6 _ K6.out.c (by rw[K6.out.top];omega) (by rw[K6.out.top];omega) K6.out.nk).mono ?_
 try rw[K6.out.top]
 try rw[K6.out.home]
 rintro e w7 P;obtain⟨X7,rfl,K7,jj,gg⟩:=K6.out.step HU.out P
 try clear q7 qL q0 q1 q6
 obtain⟨q7,qL,q0,q1⟩:=kid.out K7;have q6:=rfs.out K7;have T0:Hid (X5.n<X7.n):=Nat.lt_of_lt_of_le T0.out (jj);have K7:=hide K7;clear P jj gg;have K7:=hide (by have q:=K7.out;rw[show X.top+2+1=X.top+3 by omega]at q;exact q);clear hr;go_wp2_with fail
 go_loopw [36] (fun q wr=>∃(k:Nat) (Y:CX),k<=R/\q=.int .i64 k/\Cur F X W1 S w.heap.size n (some ⟨b3,o3,none⟩) c1 (some ⟨b2,o2,none⟩) c2 (X.ms++[⟨4,false,X.top+2⟩]) (X.top+3+k) (settleF X.home (n.refs.take k) (X.top+3)) (2000000 * V0+10+2 * k) Y wr/\Hid (X5.n<Y.n)) (fun q _=>R-(intOf q).toNat)
 case atStart=>exact⟨0,X7,Nat.zero_le _,rfl,K7.out.cast (by simp) (by rw[List.take_zero];rfl) (by omega),T0⟩
 case round=>
  obtain⟨k,Y1,hk,rfl,Z1,TT⟩:=hrel;by_cases hlt:k<R
  ·have hlt':k<n.refs.length:=by rw[HR.out];exact hlt
   have kr:=Z1.nb.refs.cellAt hlt';obtain⟨hv0,hv1⟩:=hrf.out k hlt';obtain⟨v,hv⟩:=Int.eq_ofNat_of_zero_le hv0;have hst:=settleF_take X.home n.refs (X.top+3) hlt';rw[hv]at kr hv1 hst;simp only[Int.toNat_natCast]at hst;have hv2:v<F.nv:=by omega
   have Z1:=hide Z1;have HST:=hide hst;clear hst hlt' hv hv0 q7 qL q0 q1 q6;go_wp2_with fail
   refine(push_c F Y1 _ Z1.out.c (by rw[Z1.out.top];omega) (by rw[Z1.out.top];omega) Z1.out.nk).mono ?_;rw[Z1.out.top,Z1.out.home];rintro e y2 P;obtain⟨Y2,rfl,Z2,j2,_⟩:=Z1.out.step HU.out P;have Z2:=hide Z2;clear P kr;go_wp2_with fail
   refine(put_c F Y2 _ _ _ _ _ _ Z2.out.c (by have:=Z2.out.n2;have:=HB.out.n1;omega) Z2.out.nk).mono ?_;rintro e y3 P;obtain⟨Y3,rfl,Z3,j3,_⟩:=Z2.out.put HU.out P;have Z3:=hide Z3;clear P;go_wp2_with fail
   refine(declare_any F Y3 v _ _ Z3.out.c hv2 (by omega) (by omega) (by have:=Z3.out.n2;have:=HB.out.n1;omega) Z3.out.nk).mono ?_;rw[Z3.out.top,Z3.out.home];rintro e y4 P;obtain⟨Y4,rfl,Z4,j4,_⟩:=Z3.out.step HU.out P;have Z4:=hide Z4;have TT2:Hid (X5.n<Y4.n):=Nat.lt_of_lt_of_le TT.out (Nat.le_trans j2 (Nat.le_trans (Nat.le_of_lt j3) j4));clear P j2 j3 j4;go_wp2_with fail
   go_roundw
   case rel=>exact⟨k+1,Y4,hlt,by go_num,Z4.out.cast (by push_cast;omega) HST.out.symm (by omega),TT2⟩
   case measure=>simp[intOf];omega
  ·obtain rfl:k=R:=by omega
   obtain⟨yE,hyE⟩:∃ z,wr=z:=⟨_,rfl⟩;subst hyE
   try clear q7 qL q0 q1 q6
   obtain⟨X8,hX⟩:∃ Z,Z=Y1:=⟨_,rfl⟩;rw[<-hX]at Z1 TT;have K8:=hide (Z1.cast (t':=X.top+3+k) rfl (h':=settleF X.home n.refs (X.top+3)) (by rw[<-HR.out,List.take_length]) (d':=2000000 * V0+10+2 * k) (Nat.le_refl _));have T0:=TT;have hr:=HR.out;clear hX Z1 TT;obtain⟨q7,qL,q0,q1⟩:=kid.out K8.out;have q6:=rfs.out K8.out;go_wp2_with fail
   refine(put_c F X8 _ _ _ _ _ _ K8.out.c (by have:=K8.out.n2;have:=HB.out.n1;omega) K8.out.nk).mono ?_;rintro e w9 P;obtain⟨X9,rfl,K9,jj,gg⟩:=K8.out.put HU.out P
   try clear q7 qL q0 q1 q6
   obtain⟨q7,qL,q0,q1⟩:=kid.out K9;have q6:=rfs.out K9;have T0:Hid (X5.n<X9.n):=Nat.lt_of_lt_of_le T0.out (Nat.le_of_lt jj);have K9:=hide K9;clear P jj gg;go_wp2_with fail
   refine((named_len hr F X9 (some ⟨b3,o3,none⟩) c1 S _ K9.out.c K9.out.nb.refs (HU.out.far K9.out.c) hrf.out K9.out.nk)).mono ?_
   try rw[K9.out.top]
   try rw[K9.out.home]
   rintro e w10 P;obtain⟨X10,rfl,K10,jj,gg⟩:=K9.out.step HU.out P
   try clear q7 qL q0 q1 q6
   obtain⟨q7,qL,q0,q1⟩:=kid.out K10;have q6:=rfs.out K10;have T0:Hid (X5.n<X10.n):=Nat.lt_of_lt_of_le T0.out (jj);have K10:=hide K10;clear P jj gg;go_wp2_with fail
   refine(I1.out X10 _ K10.out.c (by rw[E1.out];exact⟨by rw[K10.out.top];omega,by rw[K10.out.top];have:=HB.out.t1;omega,by rw[K10.out.ms,List.length_append];have:=HB.out.m1;simp only[List.length_cons,List.length_nil];omega,by have:=K10.out.n2;have:=HB.out.n1;omega,K10.out.nk⟩) (fun hb=>by rw[K10.out.ms];exact hasLoop.push _ (.inr rfl)) (by rw[K10.out.ms,K10.out.top];exact HM.out.push (.inr ⟨t0,by show X.top<=X.top+2;omega,by show X.top+2<=X.top+3+k;omega⟩) t0)).mono ?_;rw[E1.out,K10.out.top,K10.out.home];rintro e w11 P;obtain⟨X11,rfl,K11,jj,gg⟩:=K10.out.step HU.out P
   try clear q7 qL q0 q1 q6
   obtain⟨q7,qL,q0,q1⟩:=kid.out K11;have q6:=rfs.out K11;have T0:Hid (X5.n<X11.n):=Nat.lt_of_lt_of_le T0.out (jj);have K11:=hide K11;clear P jj gg;go_wp2_with fail
   refine((forget_len hr F X11 (some ⟨b3,o3,none⟩) c1 S _ K11.out.c K11.out.nb.refs (HU.out.far K11.out.c) hrf.out K11.out.nk)).mono ?_
   try rw[K11.out.top]
   try rw[K11.out.home]
   rintro e w12 P;obtain⟨X12,rfl,K12,jj,gg⟩:=K11.out.step HU.out P
   try clear q7 qL q0 q1 q6
   obtain⟨q7,qL,q0,q1⟩:=kid.out K12;have q6:=rfs.out K12;have T0:Hid (X5.n<X12.n):=Nat.lt_of_lt_of_le T0.out (jj);have K12:=hide K12;clear P jj gg;go_wp2_with fail
   refine(drop8 F X12 _ K12.out.c K12.out.top (by omega) (by omega) (by omega) (by omega) (by have:=K12.out.n2;have:=HB.out.n1;omega) K12.out.nk).mono ?_
   try rw[K12.out.top]
   try rw[K12.out.home]
   rintro e w13 P;obtain⟨X13,rfl,K13,jj,gg⟩:=K12.out.step HU.out P
   try clear q7 qL q0 q1 q6
   obtain⟨q7,qL,q0,q1⟩:=kid.out K13;have q6:=rfs.out K13;have T0:Hid (X5.n<X13.n):=Nat.lt_of_lt_of_le T0.out (jj);have K13:=hide K13;clear P jj gg;go_wp2_with fail
   refine(unmark_any F X13 X.ms ⟨4,false,X.top+2⟩ _ K13.out.c K13.out.ms (by have:=HB.out.m1;omega)).mono ?_;rintro e w14 P;obtain⟨X14,a3,c3,L3,a4,c4,L4,rfl,K14,jj,A3,A4⟩:=Cur.unmark (v3:=.bool false) (v4:=.bool false) K13.out HU.out P
   try clear q7 qL q0 q1 q6
   have bb:Below w14.heap.size w14 (w14.alloc (.cells #[.int .i64 4,.bool false,.int .i64 (X.top+2),.slice a3 L3.length c3,.slice a4 L4.length c4] 103)).drew:=((Below.refl _ _).alloc (Nat.le_refl _) _).drew;have KB:=hide (K14.below HU.out bb);have A3:=hide (A3.fr (Fr.of_below bb) (Nat.le_refl _));have A4:=hide (A4.fr (Fr.of_below bb) (Nat.le_refl _));have MB:Hid (MBox w14.heap.size (.slice a3 L3.length c3) (.slice a4 L4.length c4) X14 (w14.alloc (.cells #[.int .i64 4,.bool false,.int .i64 (X.top+2),.slice a3 L3.length c3,.slice a4 L4.length c4] 103)).drew):=⟨by simp[go_sem],by simp[go_sem],fun ho=>by have:=(K14.c.low _ ho).2;omega⟩;have T0:Hid (X5.n<X14.n):=Nat.lt_of_lt_of_le T0.out (Nat.le_of_eq jj.symm);have PT:Hid (∀ to_,Calls Tryz.prog 113 #[.pointer (some ⟨F.cb,0,none⟩),.slice a4 L4.length c4,.int .i64 to_] (w14.alloc (.cells #[.int .i64 4,.bool false,.int .i64 (X.top+2),.slice a3 L3.length c3,.slice a4 L4.length c4] 103)).drew (CPost F X14 (w14.alloc (.cells #[.int .i64 4,.bool false,.int .i64 (X.top+2),.slice a3 L3.length c3,.slice a4 L4.length c4] 103)).drew (.tuple #[]) X14.top X14.home 0)):=fun to_=>patch_any F X14 a4 L4 c4 to_ _ _ KB.out.c A4.out.ints (fun b hb=>⟨(A4.out.own.lt b hb).2,A4.out.far b hb⟩) A4.out.low KB.out.nk;clear P jj bb K14 A4;generalize hl3:L3.length=n3 at *;generalize hl4:L4.length=n4 at *;have HL3:=hide hl3;clear hl3 hl4;go_wp2_with fail
   go_region_with (first | (go_at_call 32;refine(at_any F X14 _ KB.out.c).mono ?_;rintro e w' ⟨rfl,rfl⟩) | (go_at_call 113;refine(PT.out _).mono ?_;rintro e w15 ⟨ZZ,rfl,CZ,fZ,sZ⟩))
   all_goals
    obtain⟨X15,_,K15,jj,gg⟩:=KB.out.step HU.out (v:=.tuple #[]) (e:=.returned (.tuple #[])) ⟨ZZ,rfl,CZ,fZ,sZ⟩;rw[KB.out.top,KB.out.home]at K15;obtain⟨q7,qL,q0,q1⟩:=kid.out K15;have q6:=rfs.out K15;have T0:Hid (X5.n<X15.n):=Nat.lt_of_lt_of_le T0.out (jj);have A3:=hide (A3.out.fr gg (jj));have MB:=hide (MB.out.fr gg);have K15:=hide K15;clear CZ fZ sZ jj gg PT KB;go_wp2_with fail
    refine(put_c F X15 _ _ _ _ _ _ K15.out.c (by have:=K15.out.n2;have:=HB.out.n1;omega) K15.out.nk).mono ?_;rintro e w16 P;obtain⟨X16,rfl,K16,jj,gg⟩:=K15.out.put HU.out P
    try clear q7 qL q0 q1 q6
    obtain⟨q7,qL,q0,q1⟩:=kid.out K16;have q6:=rfs.out K16;have T0:Hid (X5.n<X16.n):=Nat.lt_of_lt_of_le T0.out (Nat.le_of_lt jj);have A3:=hide (A3.out.fr gg (Nat.le_of_lt jj));have MB:=hide (MB.out.fr gg);have K16:=hide K16;clear P jj gg;go_wp2_with fail
    refine(put_c F X16 _ _ _ _ _ _ K16.out.c (by have:=K16.out.n2;have:=HB.out.n1;omega) K16.out.nk).mono ?_;rintro e w17 P;obtain⟨X17,rfl,K17,jj,gg⟩:=K16.out.put HU.out P
    try clear q7 qL q0 q1 q6
    obtain⟨q7,qL,q0,q1⟩:=kid.out K17;have q6:=rfs.out K17;have T0:Hid (X5.n<X17.n):=Nat.lt_of_lt_of_le T0.out (Nat.le_of_lt jj);have A3:=hide (A3.out.fr gg (Nat.le_of_lt jj));have MB:=hide (MB.out.fr gg);have K17:=hide K17;clear P jj gg;have KD:=K17.out.below HU.out (Below.refl _ _).drew;obtain⟨g,cg,d9,⟨dv,dc⟩,dz,dm,dX⟩:=KD.aim HU.out T0.out (q:=2) (by omega);have d9':w17.cell? ⟨F.cb,9,none⟩=some (.slice (some ⟨g,0,none⟩) X17.n cg):=d9;have dc':w17.cell? ⟨g,X5.n * 5+2,none⟩=some dv:=dc;have dz':w17.frozen? ⟨g,X5.n * 5+2,none⟩=false:=dz;have KD:=hide KD;have DX:=hide dX;clear d9 dc dz dX;have A3:=hide (A3.out.fr (Fr.of_below (Below.refl _ _).drew) (Nat.le_refl _));have MB:=hide (MB.out.fr (Fr.of_below (Below.refl _ _).drew));go_wp2_with fail
    try clear q7 qL q0 q1 q6
    go_region_with (first | (go_at_call 32;refine(at_any F X17 _ KD.out.c).mono ?_;rintro e w' ⟨rfl,rfl⟩))
    all_goals
     obtain⟨X18,K18,ee,oo,gg⟩:=DX.out (.int .i64 X17.n);obtain⟨w18,hw⟩:∃ z,z=(w17.setCell ⟨g,X5.n * 5+2,none⟩ (.int .i64 X17.n)).drew:=⟨_,rfl⟩;have K18:=hide (show Cur F X W1 S w.heap.size n (some ⟨b3,o3,none⟩) c1 (some ⟨b2,o2,none⟩) c2 _ _ _ _ X18 w18 by rw[hw];exact⟨K18.c,K18.f,K18.top,K18.home,K18.ms,K18.n1,K18.n2,K18.nk,K18.nb⟩);have gg':Fr X17.O X18.O w17.drew (w17.drew.setCell ⟨g,X5.n * 5+2,none⟩ (.int .i64 X17.n)):=by rw[oo];exact gg
     have A8:=A3.out.fr gg' (Nat.le_of_eq ee.symm);have M8:=MB.out.fr gg';have A3:Hid (Jl F X18 w18 (.slice a3 n3 c3) L3):=by show Jl _ _ _ _ _;rw[hw];exact⟨A8.own,A8.far,A8.low⟩
     have m3:w18.cell? ⟨w14.heap.size,3,none⟩=some (.slice a3 n3 c3):=by rw[hw];exact M8.c3
     clear A8 M8 gg';rw[<-hw];have T0:Hid (X5.n<X18.n):=by show _<_;rw[ee];exact T0.out
     clear d9' dc' dz' hw oo gg ee KD DX;obtain⟨q7,qL,q0,q1⟩:=kid.out K18.out;have q6:=rfs.out K18.out;have KB:=hide (K18.out.below HU.out (Below.refl _ _).drew);have A10:=hide (A3.out.fr (Fr.of_below (Below.refl _ _).drew) (Nat.le_refl _));have PT:Hid (∀ to_,Calls Tryz.prog 113 #[.pointer (some ⟨F.cb,0,none⟩),.slice a3 n3 c3,.int .i64 to_] w18.drew (CPost F X18 w18.drew (.tuple #[]) X18.top X18.home 0)):=fun to_=>by
      have q:=A10.out;rw[<-HL3.out]at q ⊢;exact patch_any F X18 a3 L3 c3 to_ _ _ KB.out.c q.ints (fun b hb=>⟨(q.own.lt b hb).2,q.far b hb⟩) q.low KB.out.nk
     go_wp2_with fail
     go_region_with (first | (go_at_call 32;refine(at_any F X18 _ KB.out.c).mono ?_;rintro e w' ⟨rfl,rfl⟩) | (go_at_call 113;refine(PT.out _).mono ?_;rintro e w19 ⟨ZZ,rfl,CZ,fZ,sZ⟩))
     all_goals
      obtain⟨X19,_,K19,jj,gg⟩:=KB.out.step HU.out (v:=.tuple #[]) (e:=.returned (.tuple #[])) ⟨ZZ,rfl,CZ,fZ,sZ⟩;rw[KB.out.top,KB.out.home]at K19
      try clear q7 qL q0 q1 q6
      obtain⟨q7,qL,q0,q1⟩:=kid.out K19;have q6:=rfs.out K19;have T0:Hid (X5.n<X19.n):=Nat.lt_of_lt_of_le T0.out (jj);have K19:=hide K19;clear CZ fZ sZ jj gg PT KB m3;go_wp2_with fail
      refine(drop8 F X19 _ K19.out.c K19.out.top (by omega) (by omega) (by omega) (by omega) (by have:=K19.out.n2;have:=HB.out.n1;omega) K19.out.nk).mono ?_
      try rw[K19.out.top]
      try rw[K19.out.home]
      rintro e w20 P;obtain⟨X20,rfl,K20,jj,gg⟩:=K19.out.step HU.out P
      try clear q7 qL q0 q1 q6
      obtain⟨q7,qL,q0,q1⟩:=kid.out K20;have q6:=rfs.out K20;have T0:Hid (X5.n<X20.n):=Nat.lt_of_lt_of_le T0.out (jj);have K20:=hide K20;clear P jj gg;go_wp2_with fail
      go_end0
      exact⟨_,rfl,K20.out.c,F1.out.trans K20.out.f,K20.out.top,K20.out.home,K20.out.ms,K20.out.n1,Nat.le_trans K20.out.n2 (by omega),K20.out.nk⟩
end Go.Proofs.YtomcjennjcpdnaaGreatDoor

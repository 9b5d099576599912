import Derived.Test.YtomcjennjcpdnaaGreatDoorPart33
set_option linter.unusedSimpArgs false
set_option linter.unusedVariables false
set_option maxHeartbeats 16000000
namespace Go.Proofs.YtomcjennjcpdnaaGreatDoor
set_option maxRecDepth 100000
set_option maxHeartbeats 4000000
open Go.RowKit
attribute [local go_sem] run_store_float
theorem counted8 {F:CF}{l:List FnD}{f:Nat}{S:Nat->Prop}(U:UOk F l f S)(X:CX)(n:NodeD)(c1 b3 o3 b2 o2 c2 v0 k0 k1 k2 k3:Nat)(w:World)(h:CC F X w)(ek:n.kind=7)(hlk:n.kids=[(k0:Int),(k1:Int),(k2:Int),(k3:Int)])(r1:IntsAt w S (some ⟨b3,o3,none⟩) n.refs)(hlr:n.refs=[(v0:Int)])(r2:IntsAt w S (some ⟨b2,o2,none⟩) n.kids)
  (I0:OneOk F (fnD l f).nodes k0)(I1:OneOk F (fnD l f).nodes k1)(I2:OneOk F (fnD l f).nodes k2)(I3:BlkOk F (fnD l f).nodes k3)(hv:v0<F.nv)(hrf:refsOk F n.refs)(hm:MOrd X.ms X.top)(B:Bud X (Wt (fnD l f).nodes k0+Wt (fnD l f).nodes k1+Wt (fnD l f).nodes k2+Wt (fnD l f).nodes k3+4)) :
  Calls Tryz.prog 84 #[.pointer (some ⟨F.cb,0,none⟩),.agg #[.int .i64 7,.int .i64 n.line,.int .i64 n.op,.int .i64 n.num,.float .f64 n.flt,.string n.str,.slice (some ⟨b3,o3,none⟩) 1 c1,.slice (some ⟨b2,o2,none⟩) 4 c2]] w (CPost F X w (.tuple #[]) X.top (hF (fnD l f).nodes k3 (X.top+4) (updF X.home v0 (X.top+3))) (2000000 * (Wt (fnD l f).nodes k0+Wt (fnD l f).nodes k1+Wt (fnD l f).nodes k2+Wt (fnD l f).nodes k3)+4000020)):=by
 have t0:=B.t0;have t1:X.top<=2000000:=by have:=B.t1;omega
 have hl:n.kids.length=4:=by rw[hlk];rfl
 have hr:n.refs.length=1:=by rw[hlr];rfl
 have N1:=hide (NBox.new (p1:=c1) (p2:=c2) ek hr hl U h r1 r2);have HU:=hide U;have H:=hide h;have HB:=hide B;have HM:=hide hm;have I0:=hide I0;have I1:=hide I1;have I2:=hide I2;have I3:=hide I3;have hrf:=hide hrf;obtain⟨W1,hW1⟩:∃ W1:World,W1=w.alloc (.cells #[.int .i64 7,.int .i64 n.line,.int .i64 n.op,.int .i64 n.num,.float .f64 n.flt,.string n.str,.slice (some ⟨b3,o3,none⟩) 1 c1,.slice (some ⟨b2,o2,none⟩) 4 c2] 97):=⟨_,rfl⟩;have F1:Hid (Fr X.O X.O w W1):=by show Fr _ _ _ _;rw[hW1];exact Fr.refl.alloc _
 have K1:Hid (Cur F X W1 S w.heap.size n (some ⟨b3,o3,none⟩) c1 (some ⟨b2,o2,none⟩) c2 X.ms X.top X.home 0 X W1):=by show Cur _ _ _ _ _ _ _ _ _ _ _ _ _ _ _ _;rw[hW1];exact Cur.start U (h.alloc _) N1.out B.nk
 have HW1:=hide hW1;clear h B U r1 r2 hm hW1 N1;generalize hw0:Wt (fnD l f).nodes k0=V0 at *;generalize hw1:Wt (fnD l f).nodes k1=V1 at *;generalize hw2:Wt (fnD l f).nodes k2=V2 at *;generalize hw3:Wt (fnD l f).nodes k3=V3 at *;have E0:=hide hw0;have E1:=hide hw1;have E2:=hide hw2;have E3:=hide hw3;clear hw0 hw1 hw2 hw3;have kid:Hid (∀{ms t hh d Y w'},Cur F X W1 S w.heap.size n (some ⟨b3,o3,none⟩) c1 (some ⟨b2,o2,none⟩) c2 ms t hh d Y w'->w'.cell? ⟨w.heap.size,7,none⟩=some (.slice (some ⟨b2,o2,none⟩) 4 c2)/\w'.cell? ⟨w.heap.size,1,none⟩=some (.int .i64 n.line)/\w'.cell? ⟨b2,o2,none⟩=some (.int .i64 (k0:Int))/\w'.cell? ⟨b2,o2+1,none⟩=some (.int .i64 (k1:Int))/\w'.cell? ⟨b2,o2+2,none⟩=some (.int .i64 (k2:Int))/\w'.cell? ⟨b2,o2+3,none⟩=some (.int .i64 (k3:Int))):=fun K=>by
  have q7:=K.nb.c7;rw[hl]at q7;have q0:=K.nb.kids.cellAt (j:=0) (by omega);have q1:=K.nb.kids.cellAt (j:=1) (by omega);have q2:=K.nb.kids.cellAt (j:=2) (by omega);have q3:=K.nb.kids.cellAt (j:=3) (by omega);simp only[hlk,List.getElem?_cons_succ,List.getElem?_cons_zero,Option.getD_some,Nat.add_zero]at q0 q1 q2 q3;exact⟨q7,K.nb.c1,q0,q1,q2,q3⟩
 have rfs:Hid (∀{ms t hh d Y w'},Cur F X W1 S w.heap.size n (some ⟨b3,o3,none⟩) c1 (some ⟨b2,o2,none⟩) c2 ms t hh d Y w'->w'.cell? ⟨w.heap.size,6,none⟩=some (.slice (some ⟨b3,o3,none⟩) 1 c1)/\w'.cell? ⟨b3,o3,none⟩=some (.int .i64 (v0:Int))):=fun K=>by
  have q6:=K.nb.c6;rw[hr]at q6;have q0:=K.nb.refs.cellAt (j:=0) (by omega);simp only[hlr,List.getElem?_cons_succ,List.getElem?_cons_zero,Option.getD_some,Nat.add_zero]at q0;exact⟨q6,q0⟩
 go_enter Tryz.func84,Tryz.ntmps84
 go_upto_region 1 with fail
 rw[<-HW1.out];obtain⟨q7,qL,q0,q1,q2,q3⟩:=kid.out K1.out;obtain⟨q6,u0⟩:=rfs.out K1.out;go_wp2_with fail
 refine(I0.out X _ K1.out.c (by rw[E0.out];exact⟨by rw[K1.out.top];omega,by rw[K1.out.top];have:=HB.out.t1;omega,by rw[K1.out.ms];have:=HB.out.m1;omega,by have:=K1.out.n2;have:=HB.out.n1;omega,K1.out.nk⟩)).mono ?_;rw[E0.out,K1.out.top,K1.out.home];rintro e w2 P;obtain⟨X2,rfl,K2,jj,gg⟩:=K1.out.step HU.out P
 try clear q7 qL q0 q1 q2 q3 q6 u0
 obtain⟨q7,qL,q0,q1,q2,q3⟩:=kid.out K2;obtain⟨q6,u0⟩:=rfs.out K2;have K2:=hide K2;clear P jj gg;go_wp2_with fail
 refine(I1.out X2 _ K2.out.c (by rw[E1.out];exact⟨by rw[K2.out.top];omega,by rw[K2.out.top];have:=HB.out.t1;omega,by rw[K2.out.ms];have:=HB.out.m1;omega,by have:=K2.out.n2;have:=HB.out.n1;omega,K2.out.nk⟩)).mono ?_;rw[E1.out,K2.out.top,K2.out.home];rintro e w3 P;obtain⟨X3,rfl,K3,jj,gg⟩:=K2.out.step HU.out P
 try clear q7 qL q0 q1 q2 q3 q6 u0
 obtain⟨q7,qL,q0,q1,q2,q3⟩:=kid.out K3;obtain⟨q6,u0⟩:=rfs.out K3;have K3:=hide K3;clear P jj gg;go_wp2_with fail
 refine(I2.out X3 _ K3.out.c (by rw[E2.out];exact⟨by rw[K3.out.top];omega,by rw[K3.out.top];have:=HB.out.t1;omega,by rw[K3.out.ms];have:=HB.out.m1;omega,by have:=K3.out.n2;have:=HB.out.n1;omega,K3.out.nk⟩)).mono ?_;rw[E2.out,K3.out.top,K3.out.home];rintro e w4 P;obtain⟨X4,rfl,K4,jj,gg⟩:=K3.out.step HU.out P
 try clear q7 qL q0 q1 q2 q3 q6 u0
 obtain⟨q7,qL,q0,q1,q2,q3⟩:=kid.out K4;obtain⟨q6,u0⟩:=rfs.out K4;have K4:=hide K4;clear P jj gg;go_wp2_with fail
 refine(put_c F X4 _ _ _ _ _ _ K4.out.c (by have:=K4.out.n2;have:=HB.out.n1;omega) K4.out.nk).mono ?_;rintro e w5 P;obtain⟨X5,rfl,K5,jj,gg⟩:=K4.out.put HU.out P
 try clear q7 qL q0 q1 q2 q3 q6 u0
 obtain⟨q7,qL,q0,q1,q2,q3⟩:=kid.out K5;obtain⟨q6,u0⟩:=rfs.out K5;have K5:=hide K5;clear P jj gg;go_wp2_with fail
 refine(put_c F X5 _ _ _ _ _ _ K5.out.c (by have:=K5.out.n2;have:=HB.out.n1;omega) K5.out.nk).mono ?_;rintro e w6 P;obtain⟨X6,rfl,K6,jj,gg⟩:=K5.out.put HU.out P
 try clear q7 qL q0 q1 q2 q3 q6 u0
 obtain⟨q7,qL,q0,q1,q2,q3⟩:=kid.out K6;obtain⟨q6,u0⟩:=rfs.out K6;have T0:Hid (X5.n<X6.n):=jj;have K6:=hide K6;clear P jj gg;go_wp2_with fail
 refine(put_c F X6 _ _ _ _ _ _ K6.out.c (by have:=K6.out.n2;have:=HB.out.n1;omega) K6.out.nk).mono ?_;rintro e w7 P;obtain⟨X7,rfl,K7,jj,gg⟩:=K6.out.put HU.out P
 try clear q7 qL q0 q1 q2 q3 q6 u0
 obtain⟨q7,qL,q0,q1,q2,q3⟩:=kid.out K7;obtain⟨q6,u0⟩:=rfs.out K7;have T0:Hid (X5.n<X7.n):=Nat.lt_of_lt_of_le T0.out (Nat.le_of_lt jj);have K7:=hide K7;clear P jj gg;have K7:=hide (by have q:=K7.out;rw[show X.top+1+1+1=X.top+3 by omega]at q;exact q);go_wp2_with fail
 refine(mark_any F X7 ⟨4,false,X.top+3⟩ _ K7.out.c (by rw[K7.out.ms];have:=HB.out.m1;omega)).mono ?_;rintro e w8 P;obtain⟨X8,rfl,K8,jj⟩:=K7.out.mark HU.out P
 try clear q7 qL q0 q1 q2 q3 q6 u0
 obtain⟨q7,qL,q0,q1,q2,q3⟩:=kid.out K8;obtain⟨q6,u0⟩:=rfs.out K8;have T0:Hid (X5.n<X8.n):=Nat.lt_of_lt_of_le T0.out (Nat.le_of_eq jj.symm);have K8:=hide K8;clear P jj;go_wp2_with fail
 refine(push_c F X8 _ K8.out.c (by rw[K8.out.top];omega) (by rw[K8.out.top];omega) K8.out.nk).mono ?_
 try rw[K8.out.top]
 try rw[K8.out.home]
 rintro e w9 P;obtain⟨X9,rfl,K9,jj,gg⟩:=K8.out.step HU.out P
 try clear q7 qL q0 q1 q2 q3 q6 u0
 obtain⟨q7,qL,q0,q1,q2,q3⟩:=kid.out K9;obtain⟨q6,u0⟩:=rfs.out K9;have T0:Hid (X5.n<X9.n):=Nat.lt_of_lt_of_le T0.out (jj);have K9:=hide K9;clear P jj gg;have K9:=hide (by have q:=K9.out;rw[show X.top+3+1=X.top+4 by omega]at q;exact q);go_wp2_with fail
 refine(put_c F X9 _ _ _ _ _ _ K9.out.c (by have:=K9.out.n2;have:=HB.out.n1;omega) K9.out.nk).mono ?_;rintro e w10 P;obtain⟨X10,rfl,K10,jj,gg⟩:=K9.out.put HU.out P
 try clear q7 qL q0 q1 q2 q3 q6 u0
 obtain⟨q7,qL,q0,q1,q2,q3⟩:=kid.out K10;obtain⟨q6,u0⟩:=rfs.out K10;have T0:Hid (X5.n<X10.n):=Nat.lt_of_lt_of_le T0.out (Nat.le_of_lt jj);have K10:=hide K10;clear P jj gg;go_wp2_with fail
 refine(declare_any F X10 v0 _ _ K10.out.c hv (by omega) (by omega) (by have:=K10.out.n2;have:=HB.out.n1;omega) K10.out.nk).mono ?_
 try rw[K10.out.top]
 try rw[K10.out.home]
 rintro e w11 P;obtain⟨X11,rfl,K11,jj,gg⟩:=K10.out.step HU.out P
 try clear q7 qL q0 q1 q2 q3 q6 u0
 obtain⟨q7,qL,q0,q1,q2,q3⟩:=kid.out K11;obtain⟨q6,u0⟩:=rfs.out K11;have T0:Hid (X5.n<X11.n):=Nat.lt_of_lt_of_le T0.out (jj);have K11:=hide K11;clear P jj gg;go_wp2_with fail
 refine((named_len hr F X11 (some ⟨b3,o3,none⟩) c1 S _ K11.out.c K11.out.nb.refs (HU.out.far K11.out.c) hrf.out K11.out.nk)).mono ?_
 try rw[K11.out.top]
 try rw[K11.out.home]
 rintro e w12 P;obtain⟨X12,rfl,K12,jj,gg⟩:=K11.out.step HU.out P
 try clear q7 qL q0 q1 q2 q3 q6 u0
 obtain⟨q7,qL,q0,q1,q2,q3⟩:=kid.out K12;obtain⟨q6,u0⟩:=rfs.out K12;have T0:Hid (X5.n<X12.n):=Nat.lt_of_lt_of_le T0.out (jj);have K12:=hide K12;clear P jj gg;go_wp2_with fail
 refine(I3.out X12 _ K12.out.c (by rw[E3.out];exact⟨by rw[K12.out.top];omega,by rw[K12.out.top];have:=HB.out.t1;omega,by rw[K12.out.ms,List.length_append];have:=HB.out.m1;simp only[List.length_cons,List.length_nil];omega,by have:=K12.out.n2;have:=HB.out.n1;omega,K12.out.nk⟩) (fun hb=>by rw[K12.out.ms];exact hasLoop.push _ (.inr rfl)) (by rw[K12.out.ms,K12.out.top];exact HM.out.push (.inr ⟨t0,by show X.top<=X.top+3;omega,by show X.top+3<=X.top+4;omega⟩) t0)).mono ?_;rw[E3.out,K12.out.top,K12.out.home];rintro e w13 P;obtain⟨X13,rfl,K13,jj,gg⟩:=K12.out.step HU.out P
 try clear q7 qL q0 q1 q2 q3 q6 u0
 obtain⟨q7,qL,q0,q1,q2,q3⟩:=kid.out K13;obtain⟨q6,u0⟩:=rfs.out K13;have T0:Hid (X5.n<X13.n):=Nat.lt_of_lt_of_le T0.out (jj);have K13:=hide K13;clear P jj gg;go_wp2_with fail
 refine((forget_len hr F X13 (some ⟨b3,o3,none⟩) c1 S _ K13.out.c K13.out.nb.refs (HU.out.far K13.out.c) hrf.out K13.out.nk)).mono ?_
 try rw[K13.out.top]
 try rw[K13.out.home]
 rintro e w14 P;obtain⟨X14,rfl,K14,jj,gg⟩:=K13.out.step HU.out P
 try clear q7 qL q0 q1 q2 q3 q6 u0
 obtain⟨q7,qL,q0,q1,q2,q3⟩:=kid.out K14;obtain⟨q6,u0⟩:=rfs.out K14;have T0:Hid (X5.n<X14.n):=Nat.lt_of_lt_of_le T0.out (jj);have K14:=hide K14;clear P jj gg;go_wp2_with fail
 refine(drop8 F X14 _ K14.out.c K14.out.top (by omega) (by omega) (by omega) (by omega) (by have:=K14.out.n2;have:=HB.out.n1;omega) K14.out.nk).mono ?_
 try rw[K14.out.top]
 try rw[K14.out.home]
 rintro e w15 P;obtain⟨X15,rfl,K15,jj,gg⟩:=K14.out.step HU.out P
 try clear q7 qL q0 q1 q2 q3 q6 u0
 obtain⟨q7,qL,q0,q1,q2,q3⟩:=kid.out K15;obtain⟨q6,u0⟩:=rfs.out K15;have T0:Hid (X5.n<X15.n):=Nat.lt_of_lt_of_le T0.out (jj);have K15:=hide K15;clear P jj gg;go_wp2_with fail
 refine(unmark_any F X15 X.ms ⟨4,false,X.top+3⟩ _ K15.out.c K15.out.ms (by have:=HB.out.m1;omega)).mono ?_;rintro e w16 P;obtain⟨X16,a3,c3,L3,a4,c4,L4,rfl,K16,jj,A3,A4⟩:=Cur.unmark (v3:=.bool false) (v4:=.bool false) K15.out HU.out P
 try clear q7 qL q0 q1 q2 q3 q6 u0
 have bb:Below w16.heap.size w16 (w16.alloc (.cells #[.int .i64 4,.bool false,.int .i64 (X.top+3),.slice a3 L3.length c3,.slice a4 L4.length c4] 103)).drew:=((Below.refl _ _).alloc (Nat.le_refl _) _).drew;have KB:=hide (K16.below HU.out bb);have A3:=hide (A3.fr (Fr.of_below bb) (Nat.le_refl _));have A4:=hide (A4.fr (Fr.of_below bb) (Nat.le_refl _));have MB:Hid (MBox w16.heap.size (.slice a3 L3.length c3) (.slice a4 L4.length c4) X16 (w16.alloc (.cells #[.int .i64 4,.bool false,.int .i64 (X.top+3),.slice a3 L3.length c3,.slice a4 L4.length c4] 103)).drew):=⟨by simp[go_sem],by simp[go_sem],fun ho=>by have:=(K16.c.low _ ho).2;omega⟩;have T0:Hid (X5.n<X16.n):=Nat.lt_of_lt_of_le T0.out (Nat.le_of_eq jj.symm);have PT:Hid (∀ to_,Calls Tryz.prog 113 #[.pointer (some ⟨F.cb,0,none⟩),.slice a4 L4.length c4,.int .i64 to_] (w16.alloc (.cells #[.int .i64 4,.bool false,.int .i64 (X.top+3),.slice a3 L3.length c3,.slice a4 L4.length c4] 103)).drew (CPost F X16 (w16.alloc (.cells #[.int .i64 4,.bool false,.int .i64 (X.top+3),.slice a3 L3.length c3,.slice a4 L4.length c4] 103)).drew (.tuple #[]) X16.top X16.home 0)):=fun to_=>patch_any F X16 a4 L4 c4 to_ _ _ KB.out.c A4.out.ints (fun b hb=>⟨(A4.out.own.lt b hb).2,A4.out.far b hb⟩) A4.out.low KB.out.nk;clear P jj bb K16 A4;generalize hl3:L3.length=n3 at *;generalize hl4:L4.length=n4 at *;have HL3:=hide hl3;clear hl3 hl4;go_wp2_with fail
 go_region_with (first | (go_at_call 32;refine(at_any F X16 _ KB.out.c).mono ?_;rintro e w' ⟨rfl,rfl⟩) | (go_at_call 113;refine(PT.out _).mono ?_;rintro e w17 ⟨ZZ,rfl,CZ,fZ,sZ⟩))
 all_goals
  obtain⟨X17,_,K17,jj,gg⟩:=KB.out.step HU.out (v:=.tuple #[]) (e:=.returned (.tuple #[])) ⟨ZZ,rfl,CZ,fZ,sZ⟩;rw[KB.out.top,KB.out.home]at K17;obtain⟨q7,qL,q0,q1,q2,q3⟩:=kid.out K17;obtain⟨q6,u0⟩:=rfs.out K17;have T0:Hid (X5.n<X17.n):=Nat.lt_of_lt_of_le T0.out (jj);have A3:=hide (A3.out.fr gg (jj));have MB:=hide (MB.out.fr gg);have K17:=hide K17;clear CZ fZ sZ jj gg PT KB;go_wp2_with fail
  refine(put_c F X17 _ _ _ _ _ _ K17.out.c (by have:=K17.out.n2;have:=HB.out.n1;omega) K17.out.nk).mono ?_;rintro e w18 P;obtain⟨X18,rfl,K18,jj,gg⟩:=K17.out.put HU.out P
  try clear q7 qL q0 q1 q2 q3 q6 u0
  obtain⟨q7,qL,q0,q1,q2,q3⟩:=kid.out K18;obtain⟨q6,u0⟩:=rfs.out K18;have T0:Hid (X5.n<X18.n):=Nat.lt_of_lt_of_le T0.out (Nat.le_of_lt jj);have A3:=hide (A3.out.fr gg (Nat.le_of_lt jj));have MB:=hide (MB.out.fr gg);have K18:=hide K18;clear P jj gg;go_wp2_with fail
  refine(put_c F X18 _ _ _ _ _ _ K18.out.c (by have:=K18.out.n2;have:=HB.out.n1;omega) K18.out.nk).mono ?_;rintro e w19 P;obtain⟨X19,rfl,K19,jj,gg⟩:=K18.out.put HU.out P
  try clear q7 qL q0 q1 q2 q3 q6 u0
  obtain⟨q7,qL,q0,q1,q2,q3⟩:=kid.out K19;obtain⟨q6,u0⟩:=rfs.out K19;have T0:Hid (X5.n<X19.n):=Nat.lt_of_lt_of_le T0.out (Nat.le_of_lt jj);have A3:=hide (A3.out.fr gg (Nat.le_of_lt jj));have MB:=hide (MB.out.fr gg);have K19:=hide K19;clear P jj gg;have KD:=K19.out.below HU.out (Below.refl _ _).drew;obtain⟨g,cg,d9,⟨dv,dc⟩,dz,dm,dX⟩:=KD.aim HU.out T0.out (q:=2) (by omega);have d9':w19.cell? ⟨F.cb,9,none⟩=some (.slice (some ⟨g,0,none⟩) X19.n cg):=d9;have dc':w19.cell? ⟨g,X5.n * 5+2,none⟩=some dv:=dc;have dz':w19.frozen? ⟨g,X5.n * 5+2,none⟩=false:=dz;have KD:=hide KD;have DX:=hide dX;clear d9 dc dz dX;have A3:=hide (A3.out.fr (Fr.of_below (Below.refl _ _).drew) (Nat.le_refl _));have MB:=hide (MB.out.fr (Fr.of_below (Below.refl _ _).drew));go_wp2_with fail
  try clear q7 qL q0 q1 q2 q3 q6 u0
  go_region_with (first | (go_at_call 32;refine(at_any F X19 _ KD.out.c).mono ?_;rintro e w' ⟨rfl,rfl⟩))
  all_goals
   obtain⟨X20,K20,ee,oo,gg⟩:=DX.out (.int .i64 X19.n);obtain⟨w20,hw⟩:∃ z,z=(w19.setCell ⟨g,X5.n * 5+2,none⟩ (.int .i64 X19.n)).drew:=⟨_,rfl⟩;have K20:=hide (show Cur F X W1 S w.heap.size n (some ⟨b3,o3,none⟩) c1 (some ⟨b2,o2,none⟩) c2 _ _ _ _ X20 w20 by rw[hw];exact⟨K20.c,K20.f,K20.top,K20.home,K20.ms,K20.n1,K20.n2,K20.nk,K20.nb⟩);have gg':Fr X19.O X20.O w19.drew (w19.drew.setCell ⟨g,X5.n * 5+2,none⟩ (.int .i64 X19.n)):=by rw[oo];exact gg
   have A8:=A3.out.fr gg' (Nat.le_of_eq ee.symm);have M8:=MB.out.fr gg';have A3:Hid (Jl F X20 w20 (.slice a3 n3 c3) L3):=by show Jl _ _ _ _ _;rw[hw];exact⟨A8.own,A8.far,A8.low⟩
   have m3:w20.cell? ⟨w16.heap.size,3,none⟩=some (.slice a3 n3 c3):=by rw[hw];exact M8.c3
   clear A8 M8 gg';rw[<-hw];have T0:Hid (X5.n<X20.n):=by show _<_;rw[ee];exact T0.out
   clear d9' dc' dz' hw oo gg ee KD DX;obtain⟨q7,qL,q0,q1,q2,q3⟩:=kid.out K20.out;obtain⟨q6,u0⟩:=rfs.out K20.out;have KB:=hide (K20.out.below HU.out (Below.refl _ _).drew);have A10:=hide (A3.out.fr (Fr.of_below (Below.refl _ _).drew) (Nat.le_refl _));have PT:Hid (∀ to_,Calls Tryz.prog 113 #[.pointer (some ⟨F.cb,0,none⟩),.slice a3 n3 c3,.int .i64 to_] w20.drew (CPost F X20 w20.drew (.tuple #[]) X20.top X20.home 0)):=fun to_=>by
    have q:=A10.out;rw[<-HL3.out]at q ⊢;exact patch_any F X20 a3 L3 c3 to_ _ _ KB.out.c q.ints (fun b hb=>⟨(q.own.lt b hb).2,q.far b hb⟩) q.low KB.out.nk
   go_wp2_with fail
   go_region_with (first | (go_at_call 32;refine(at_any F X20 _ KB.out.c).mono ?_;rintro e w' ⟨rfl,rfl⟩) | (go_at_call 113;refine(PT.out _).mono ?_;rintro e w21 ⟨ZZ,rfl,CZ,fZ,sZ⟩))
   all_goals
    obtain⟨X21,_,K21,jj,gg⟩:=KB.out.step HU.out (v:=.tuple #[]) (e:=.returned (.tuple #[])) ⟨ZZ,rfl,CZ,fZ,sZ⟩;rw[KB.out.top,KB.out.home]at K21
    try clear q7 qL q0 q1 q2 q3 q6 u0
    obtain⟨q7,qL,q0,q1,q2,q3⟩:=kid.out K21;obtain⟨q6,u0⟩:=rfs.out K21;have T0:Hid (X5.n<X21.n):=Nat.lt_of_lt_of_le T0.out (jj);have K21:=hide K21;clear CZ fZ sZ jj gg PT KB m3;go_wp2_with fail
    refine(drop8 F X21 _ K21.out.c K21.out.top (by omega) (by omega) t0 (by omega) (by have:=K21.out.n2;have:=HB.out.n1;omega) K21.out.nk).mono ?_
    try rw[K21.out.top]
    try rw[K21.out.home]
    rintro e w22 P;obtain⟨X22,rfl,K22,jj,gg⟩:=K21.out.step HU.out P
    try clear q7 qL q0 q1 q2 q3 q6 u0
    obtain⟨q7,qL,q0,q1,q2,q3⟩:=kid.out K22;obtain⟨q6,u0⟩:=rfs.out K22;have T0:Hid (X5.n<X22.n):=Nat.lt_of_lt_of_le T0.out (jj);have K22:=hide K22;clear P jj gg;go_wp2_with fail
    go_end0
    exact⟨_,rfl,K22.out.c,F1.out.trans K22.out.f,K22.out.top,K22.out.home,K22.out.ms,K22.out.n1,Nat.le_trans K22.out.n2 (by omega),K22.out.nk⟩
end Go.Proofs.YtomcjennjcpdnaaGreatDoor

import Derived.Test.YtomcjennjcpdnaaGreatDoorPart33
set_option linter.unusedSimpArgs false
set_option linter.unusedVariables false
set_option maxHeartbeats 16000000
namespace Go.Proofs.YtomcjennjcpdnaaGreatDoor
set_option maxRecDepth 100000
set_option maxHeartbeats 4000000
open Go.RowKit
attribute [local go_sem] run_store_float
theorem branch2 {F:CF}{l:List FnD}{f:Nat}{S:Nat->Prop}(U:UOk F l f S)(X:CX)(n:NodeD)(a1:Option Addr)(c1 b2 o2 c2 k0 k1:Nat)(w:World)(h:CC F X w)(ek:n.kind=5)(hlk:n.kids=[(k0:Int),(k1:Int)])(r1:IntsAt w S a1 n.refs)(r2:IntsAt w S (some ⟨b2,o2,none⟩) n.kids)
  (I0:OneOk F (fnD l f).nodes k0)(I1:BlkOk F (fnD l f).nodes k1)(hb1:brkF (fnD l f).nodes k1=true->hasLoop X.ms)(hm:MOrd X.ms X.top)(B:Bud X (Wt (fnD l f).nodes k0+Wt (fnD l f).nodes k1+2)) :
  Calls Tryz.prog 82 #[.pointer (some ⟨F.cb,0,none⟩),.agg #[.int .i64 5,.int .i64 n.line,.int .i64 n.op,.int .i64 n.num,.float .f64 n.flt,.string n.str,.slice a1 n.refs.length c1,.slice (some ⟨b2,o2,none⟩) 2 c2]] w (CPost F X w (.tuple #[]) X.top (hF (fnD l f).nodes k1 X.top X.home) (2000000 * (Wt (fnD l f).nodes k0+Wt (fnD l f).nodes k1)+10)):=by
 have t0:=B.t0;have t1:X.top<=2000000:=by have:=B.t1;omega
 have hl:n.kids.length=2:=by rw[hlk];rfl
 have N1:=hide (NBox.new (p1:=c1) (p2:=c2) ek rfl hl U h r1 r2);have HU:=hide U;have H:=hide h;have HB:=hide B;have HM:=hide hm;have I0:=hide I0;have I1:=hide I1;have hb1:=hide hb1;obtain⟨W1,hW1⟩:∃ W1:World,W1=w.alloc (.cells #[.int .i64 5,.int .i64 n.line,.int .i64 n.op,.int .i64 n.num,.float .f64 n.flt,.string n.str,.slice a1 n.refs.length c1,.slice (some ⟨b2,o2,none⟩) 2 c2] 97):=⟨_,rfl⟩;have F1:Hid (Fr X.O X.O w W1):=by show Fr _ _ _ _;rw[hW1];exact Fr.refl.alloc _
 have K1:Hid (Cur F X W1 S w.heap.size n a1 c1 (some ⟨b2,o2,none⟩) c2 X.ms X.top X.home 0 X W1):=by show Cur _ _ _ _ _ _ _ _ _ _ _ _ _ _ _ _;rw[hW1];exact Cur.start U (h.alloc _) N1.out B.nk
 have HW1:=hide hW1;clear h B U r1 r2 hm hW1 N1;generalize hw0:Wt (fnD l f).nodes k0=V0 at *;generalize hw1:Wt (fnD l f).nodes k1=V1 at *;have E0:=hide hw0;have E1:=hide hw1;clear hw0 hw1;have kid:Hid (∀{ms t hh d Y w'},Cur F X W1 S w.heap.size n a1 c1 (some ⟨b2,o2,none⟩) c2 ms t hh d Y w'->w'.cell? ⟨w.heap.size,7,none⟩=some (.slice (some ⟨b2,o2,none⟩) 2 c2)/\w'.cell? ⟨w.heap.size,1,none⟩=some (.int .i64 n.line)/\w'.cell? ⟨b2,o2,none⟩=some (.int .i64 (k0:Int))/\w'.cell? ⟨b2,o2+1,none⟩=some (.int .i64 (k1:Int))):=fun K=>by
  have q7:=K.nb.c7;rw[hl]at q7;have q0:=K.nb.kids.cellAt (j:=0) (by omega);have q1:=K.nb.kids.cellAt (j:=1) (by omega);simp only[hlk,List.getElem?_cons_succ,List.getElem?_cons_zero,Option.getD_some,Nat.add_zero]at q0 q1;exact⟨q7,K.nb.c1,q0,q1⟩
 go_enter Tryz.func82,Tryz.ntmps82
 go_upto_region 1 with fail
 rw[<-HW1.out];obtain⟨q7,qL,q0,q1⟩:=kid.out K1.out;go_wp2_with fail
 refine(I0.out X _ K1.out.c (by rw[E0.out];exact⟨by rw[K1.out.top];omega,by rw[K1.out.top];have:=HB.out.t1;omega,by rw[K1.out.ms];have:=HB.out.m1;omega,by have:=K1.out.n2;have:=HB.out.n1;omega,K1.out.nk⟩)).mono ?_;rw[E0.out,K1.out.top,K1.out.home];rintro e w2 P;obtain⟨X2,rfl,K2,jj,gg⟩:=K1.out.step HU.out P
 try clear q7 qL q0 q1
 obtain⟨q7,qL,q0,q1⟩:=kid.out K2;have K2:=hide K2;clear P jj gg;go_wp2_with fail
 refine(take_any _ _ (by omega) (by omega)).mono ?_;rintro e w' ⟨rfl,rfl⟩;go_wp2_with fail
 refine(put_c F X2 _ _ _ _ _ _ K2.out.c (by have:=K2.out.n2;have:=HB.out.n1;omega) K2.out.nk).mono ?_;rintro e w3 P;obtain⟨X3,rfl,K3,jj,gg⟩:=K2.out.put HU.out P
 try clear q7 qL q0 q1
 obtain⟨q7,qL,q0,q1⟩:=kid.out K3;have T0:Hid (X2.n<X3.n):=jj;have K3:=hide K3;clear P jj gg;have c11:=K3.out.c.c11;have z11:=K3.out.c.fz 11;have K4:=hide (K3.out.setTop HU.out X.top);obtain⟨X4,hX4⟩:∃ Z:CX,Z={ X3 with top:=X.top }:=⟨_,rfl⟩;rw[<-hX4]at K4;have T0:Hid (X2.n<X4.n):=by show _<_;rw[hX4];exact T0.out
 clear hX4;have hnbc:w.heap.size≠F.cb:=fun e=>K3.out.nb.far (e ▸ K3.out.c.ocb)
 go_upto_region 4 with fail
 generalize w3.setCell ⟨F.cb,11,none⟩ (.int .i64 X.top)=w4 at *;clear q7 qL q0 q1 c11 z11;obtain⟨q7,qL,q0,q1⟩:=kid.out K4.out;go_wp2_with fail
 refine(I1.out X4 _ K4.out.c (by rw[E1.out];exact⟨by rw[K4.out.top];omega,by rw[K4.out.top];have:=HB.out.t1;omega,by rw[K4.out.ms];have:=HB.out.m1;omega,by have:=K4.out.n2;have:=HB.out.n1;omega,K4.out.nk⟩) (fun hb=>by rw[K4.out.ms];exact hb1.out hb) (by rw[K4.out.ms,K4.out.top];exact HM.out)).mono ?_;rw[E1.out,K4.out.top,K4.out.home];rintro e w5 P;obtain⟨X5,rfl,K5,jj,gg⟩:=K4.out.step HU.out P
 try clear q7 qL q0 q1
 obtain⟨q7,qL,q0,q1⟩:=kid.out K5;have T0:Hid (X2.n<X5.n):=Nat.lt_of_lt_of_le T0.out (jj);have K5:=hide K5;clear P jj gg;have KD:=K5.out.below HU.out (Below.refl _ _).drew;obtain⟨g,cg,d9,⟨dv,dc⟩,dz,dm,dX⟩:=KD.aim HU.out T0.out (q:=2) (by omega);have d9':w5.cell? ⟨F.cb,9,none⟩=some (.slice (some ⟨g,0,none⟩) X5.n cg):=d9;have dc':w5.cell? ⟨g,X2.n * 5+2,none⟩=some dv:=dc;have dz':w5.frozen? ⟨g,X2.n * 5+2,none⟩=false:=dz;have KD:=hide KD;have DX:=hide dX;clear d9 dc dz dX;go_wp2_with fail
 try clear q7 qL q0 q1
 go_region_with (first | (go_at_call 32;refine(at_any F X5 _ KD.out.c).mono ?_;rintro e w' ⟨rfl,rfl⟩))
 all_goals
  obtain⟨X6,K6,ee,oo,gg⟩:=DX.out (.int .i64 X5.n);obtain⟨w6,hw⟩:∃ z,z=(w5.setCell ⟨g,X2.n * 5+2,none⟩ (.int .i64 X5.n)).drew:=⟨_,rfl⟩;have K6:=hide (show Cur F X W1 S w.heap.size n a1 c1 (some ⟨b2,o2,none⟩) c2 _ _ _ _ X6 w6 by rw[hw];exact⟨K6.c,K6.f,K6.top,K6.home,K6.ms,K6.n1,K6.n2,K6.nk,K6.nb⟩);rw[<-hw];have T0:Hid (X2.n<X6.n):=by show _<_;rw[ee];exact T0.out
  clear d9' dc' dz' hw oo gg ee KD DX;go_wp2_with fail
  go_end0
  exact⟨_,rfl,K6.out.c,F1.out.trans K6.out.f,K6.out.top,K6.out.home,K6.out.ms,K6.out.n1,Nat.le_trans K6.out.n2 (by omega),K6.out.nk⟩
end Go.Proofs.YtomcjennjcpdnaaGreatDoor
namespace Go.Proofs.YtomcjennjcpdnaaGreatDoor
set_option maxRecDepth 100000
set_option maxHeartbeats 4000000
open Go.RowKit
attribute [local go_sem] run_store_float
theorem try8 {F:CF}{l:List FnD}{f:Nat}{S:Nat->Prop}(U:UOk F l f S)(X:CX)(n:NodeD)(c1 b3 o3 b2 o2 c2 v0 v1 k0 k1:Nat)(w:World)(h:CC F X w)(ek:n.kind=12)(hlk:n.kids=[(k0:Int),(k1:Int)])(r1:IntsAt w S (some ⟨b3,o3,none⟩) n.refs)(hlr:n.refs=[(v0:Int),(v1:Int)])(r2:IntsAt w S (some ⟨b2,o2,none⟩) n.kids)
  (I0:BlkOk F (fnD l f).nodes k0)(I1:BlkOk F (fnD l f).nodes k1)(hb0:brkF (fnD l f).nodes k0=true->hasLoop X.ms)(hb1:brkF (fnD l f).nodes k1=true->hasLoop X.ms)(hv:v0<F.nv/\v1<F.nv)(hrf:refsOk F n.refs)(hm:MOrd X.ms X.top)(B:Bud X (Wt (fnD l f).nodes k0+Wt (fnD l f).nodes k1+4)) :
  Calls Tryz.prog 88 #[.pointer (some ⟨F.cb,0,none⟩),.agg #[.int .i64 12,.int .i64 n.line,.int .i64 n.op,.int .i64 n.num,.float .f64 n.flt,.string n.str,.slice (some ⟨b3,o3,none⟩) 2 c1,.slice (some ⟨b2,o2,none⟩) 2 c2]] w (CPost F X w (.tuple #[]) X.top (hF (fnD l f).nodes k1 (X.top+2) (updF (updF (hF (fnD l f).nodes k0 X.top X.home) v0 X.top) v1 (X.top+1))) (2000000 * (Wt (fnD l f).nodes k0+Wt (fnD l f).nodes k1)+2000020)):=by
 have t0:=B.t0;have t1:X.top<=2000000:=by have:=B.t1;omega
 have hl:n.kids.length=2:=by rw[hlk];rfl
 have hr:n.refs.length=2:=by rw[hlr];rfl
 have N1:=hide (NBox.new (p1:=c1) (p2:=c2) ek hr hl U h r1 r2);have HU:=hide U;have H:=hide h;have HB:=hide B;have HM:=hide hm;have I0:=hide I0;have I1:=hide I1;have hb0:=hide hb0;have hb1:=hide hb1;have hrf:=hide hrf;obtain⟨W1,hW1⟩:∃ W1:World,W1=w.alloc (.cells #[.int .i64 12,.int .i64 n.line,.int .i64 n.op,.int .i64 n.num,.float .f64 n.flt,.string n.str,.slice (some ⟨b3,o3,none⟩) 2 c1,.slice (some ⟨b2,o2,none⟩) 2 c2] 97):=⟨_,rfl⟩;have F1:Hid (Fr X.O X.O w W1):=by show Fr _ _ _ _;rw[hW1];exact Fr.refl.alloc _
 have K1:Hid (Cur F X W1 S w.heap.size n (some ⟨b3,o3,none⟩) c1 (some ⟨b2,o2,none⟩) c2 X.ms X.top X.home 0 X W1):=by show Cur _ _ _ _ _ _ _ _ _ _ _ _ _ _ _ _;rw[hW1];exact Cur.start U (h.alloc _) N1.out B.nk
 have HW1:=hide hW1;clear h B U r1 r2 hm hW1 N1;generalize hw0:Wt (fnD l f).nodes k0=V0 at *;generalize hw1:Wt (fnD l f).nodes k1=V1 at *;have E0:=hide hw0;have E1:=hide hw1;clear hw0 hw1;have kid:Hid (∀{ms t hh d Y w'},Cur F X W1 S w.heap.size n (some ⟨b3,o3,none⟩) c1 (some ⟨b2,o2,none⟩) c2 ms t hh d Y w'->w'.cell? ⟨w.heap.size,7,none⟩=some (.slice (some ⟨b2,o2,none⟩) 2 c2)/\w'.cell? ⟨w.heap.size,1,none⟩=some (.int .i64 n.line)/\w'.cell? ⟨b2,o2,none⟩=some (.int .i64 (k0:Int))/\w'.cell? ⟨b2,o2+1,none⟩=some (.int .i64 (k1:Int))):=fun K=>by
  have q7:=K.nb.c7;rw[hl]at q7;have q0:=K.nb.kids.cellAt (j:=0) (by omega);have q1:=K.nb.kids.cellAt (j:=1) (by omega);simp only[hlk,List.getElem?_cons_succ,List.getElem?_cons_zero,Option.getD_some,Nat.add_zero]at q0 q1;exact⟨q7,K.nb.c1,q0,q1⟩
 have rfs:Hid (∀{ms t hh d Y w'},Cur F X W1 S w.heap.size n (some ⟨b3,o3,none⟩) c1 (some ⟨b2,o2,none⟩) c2 ms t hh d Y w'->w'.cell? ⟨w.heap.size,6,none⟩=some (.slice (some ⟨b3,o3,none⟩) 2 c1)/\w'.cell? ⟨b3,o3,none⟩=some (.int .i64 (v0:Int))/\w'.cell? ⟨b3,o3+1,none⟩=some (.int .i64 (v1:Int))):=fun K=>by
  have q6:=K.nb.c6;rw[hr]at q6;have q0:=K.nb.refs.cellAt (j:=0) (by omega);have q1:=K.nb.refs.cellAt (j:=1) (by omega);simp only[hlr,List.getElem?_cons_succ,List.getElem?_cons_zero,Option.getD_some,Nat.add_zero]at q0 q1;exact⟨q6,q0,q1⟩
 go_enter Tryz.func88,Tryz.ntmps88
 go_upto_region 1 with fail
 rw[<-HW1.out];have c11:=K1.out.c.c11;obtain⟨q7,qL,q0,q1⟩:=kid.out K1.out;obtain⟨q6,u0,u1⟩:=rfs.out K1.out;go_wp2_with fail
 refine(use_any F X _ _ K1.out.c).mono ?_;rintro e w2 P;obtain⟨X2,rfl,K2,jj⟩:=K1.out.use HU.out P
 try clear q7 qL q0 q1 q6 u0 u1
 obtain⟨q7,qL,q0,q1⟩:=kid.out K2;obtain⟨q6,u0,u1⟩:=rfs.out K2;have K2:=hide K2;clear P jj;go_wp2_with fail
 refine(put_c F X2 _ _ _ _ _ _ K2.out.c (by have:=K2.out.n2;have:=HB.out.n1;omega) K2.out.nk).mono ?_;rintro e w3 P;obtain⟨X3,rfl,K3,jj,gg⟩:=K2.out.put HU.out P
 try clear q7 qL q0 q1 q6 u0 u1
 obtain⟨q7,qL,q0,q1⟩:=kid.out K3;obtain⟨q6,u0,u1⟩:=rfs.out K3;have T0:Hid (X2.n<X3.n):=jj;have K3:=hide K3;clear P jj gg;go_wp2_with fail
 refine(mark_any F X3 ⟨2,false,0⟩ _ K3.out.c (by rw[K3.out.ms];have:=HB.out.m1;omega)).mono ?_;rintro e w4 P;obtain⟨X4,rfl,K4,jj⟩:=K3.out.mark HU.out P
 try clear q7 qL q0 q1 q6 u0 u1
 obtain⟨q7,qL,q0,q1⟩:=kid.out K4;obtain⟨q6,u0,u1⟩:=rfs.out K4;have T0:Hid (X2.n<X4.n):=Nat.lt_of_lt_of_le T0.out (Nat.le_of_eq jj.symm);have K4:=hide K4;clear P jj;clear c11;go_wp2_with fail
 refine(I0.out X4 _ K4.out.c (by rw[E0.out];exact⟨by rw[K4.out.top];omega,by rw[K4.out.top];have:=HB.out.t1;omega,by rw[K4.out.ms,List.length_append];have:=HB.out.m1;simp only[List.length_cons,List.length_nil];omega,by have:=K4.out.n2;have:=HB.out.n1;omega,K4.out.nk⟩) (fun hb=>by rw[K4.out.ms];exact hasLoop.push _ (.inl (hb0.out hb))) (by rw[K4.out.ms,K4.out.top];exact HM.out.push (.inl ⟨rfl,Int.le_refl _⟩) t0)).mono ?_;rw[E0.out,K4.out.top,K4.out.home];rintro e w5 P;obtain⟨X5,rfl,K5,jj,gg⟩:=K4.out.step HU.out P
 try clear q7 qL q0 q1 q6 u0 u1
 obtain⟨q7,qL,q0,q1⟩:=kid.out K5;obtain⟨q6,u0,u1⟩:=rfs.out K5;have T0:Hid (X2.n<X5.n):=Nat.lt_of_lt_of_le T0.out (jj);have K5:=hide K5;clear P jj gg;go_wp2_with fail
 refine(unmark_any F X5 X.ms ⟨2,false,0⟩ _ K5.out.c K5.out.ms (by have:=HB.out.m1;omega)).mono ?_;rintro e w6 P;obtain⟨X6,a3,c3,L3,a4,c4,L4,rfl,K6,jj,_,_⟩:=Cur.unmark (v3:=.bool false) (v4:=.bool false) K5.out HU.out P
 try clear q7 qL q0 q1 q6 u0 u1
 obtain⟨q7,qL,q0,q1⟩:=kid.out K6;obtain⟨q6,u0,u1⟩:=rfs.out K6;have T0:Hid (X2.n<X6.n):=Nat.lt_of_lt_of_le T0.out (Nat.le_of_eq jj.symm);have K6:=hide K6;clear P jj;go_wp2_with fail
 refine(put_c F X6 _ _ _ _ _ _ K6.out.c (by have:=K6.out.n2;have:=HB.out.n1;omega) K6.out.nk).mono ?_;rintro e w7 P;obtain⟨X7,rfl,K7,jj,gg⟩:=K6.out.put HU.out P
 try clear q7 qL q0 q1 q6 u0 u1
 obtain⟨q7,qL,q0,q1⟩:=kid.out K7;obtain⟨q6,u0,u1⟩:=rfs.out K7;have T0:Hid (X2.n<X7.n):=Nat.lt_of_lt_of_le T0.out (Nat.le_of_lt jj);have K7:=hide K7;clear P jj gg;go_wp2_with fail
 refine(put_c F X7 _ _ _ _ _ _ K7.out.c (by have:=K7.out.n2;have:=HB.out.n1;omega) K7.out.nk).mono ?_;rintro e w8 P;obtain⟨X8,rfl,K8,jj,gg⟩:=K7.out.put HU.out P
 try clear q7 qL q0 q1 q6 u0 u1
 obtain⟨q7,qL,q0,q1⟩:=kid.out K8;obtain⟨q6,u0,u1⟩:=rfs.out K8;have T0:Hid (X2.n<X8.n):=Nat.lt_of_lt_of_le T0.out (Nat.le_of_lt jj);have T1:Hid (X7.n<X8.n):=jj;have K8:=hide K8;clear P jj gg;have KD:=K8.out.below HU.out (Below.refl _ _).drew;obtain⟨g,cg,d9,⟨dv,dc⟩,dz,dm,dX⟩:=KD.aim HU.out T0.out (q:=1) (by omega);have d9':w8.cell? ⟨F.cb,9,none⟩=some (.slice (some ⟨g,0,none⟩) X8.n cg):=d9;have dc':w8.cell? ⟨g,X2.n * 5+1,none⟩=some dv:=dc;have dz':w8.frozen? ⟨g,X2.n * 5+1,none⟩=false:=dz;have KD:=hide KD;have DX:=hide dX;clear d9 dc dz dX;go_wp2_with fail
 try clear q7 qL q0 q1 q6 u0 u1
 go_region_with (first | (go_at_call 32;refine(at_any F X8 _ KD.out.c).mono ?_;rintro e w' ⟨rfl,rfl⟩))
 all_goals
  obtain⟨X9,K9,ee,oo,gg⟩:=DX.out (.int .i64 X8.n);obtain⟨w9,hw⟩:∃ z,z=(w8.setCell ⟨g,X2.n * 5+1,none⟩ (.int .i64 X8.n)).drew:=⟨_,rfl⟩;have K9:=hide (show Cur F X W1 S w.heap.size n (some ⟨b3,o3,none⟩) c1 (some ⟨b2,o2,none⟩) c2 _ _ _ _ X9 w9 by rw[hw];exact⟨K9.c,K9.f,K9.top,K9.home,K9.ms,K9.n1,K9.n2,K9.nk,K9.nb⟩);rw[<-hw];have T0:Hid (X2.n<X9.n):=by show _<_;rw[ee];exact T0.out
  have T1:Hid (X7.n<X9.n):=by show _<_;rw[ee];exact T1.out
  clear d9' dc' dz' hw oo gg ee KD DX;obtain⟨q7,qL,q0,q1⟩:=kid.out K9.out;obtain⟨q6,u0,u1⟩:=rfs.out K9.out;have c11:=K9.out.c.c11;have z11:=K9.out.c.fz 11;have K10:=hide (K9.out.setTop HU.out (X.top+2));obtain⟨X10,hX10⟩:∃ Z:CX,Z={ X9 with top:=(X.top+2) }:=⟨_,rfl⟩;rw[<-hX10]at K10;have T0:Hid (X2.n<X10.n):=by show _<_;rw[hX10];exact T0.out
  have T1:Hid (X7.n<X10.n):=by show _<_;rw[hX10];exact T1.out
  clear hX10
  go_upto_region 11 with fail
  generalize w9.setCell ⟨F.cb,11,none⟩ (.int .i64 (X.top+2))=w10 at *
  try clear q7 qL q0 q1 q6 u0 u1
  try clear c11 z11
  obtain⟨q7,qL,q0,q1⟩:=kid.out K10.out;obtain⟨q6,u0,u1⟩:=rfs.out K10.out;go_wp2_with fail
  refine(declare_any F X10 v0 _ _ K10.out.c hv.1 (by omega) (by omega) (by have:=K10.out.n2;have:=HB.out.n1;omega) K10.out.nk).mono ?_
  try rw[K10.out.top]
  try rw[K10.out.home]
  rintro e w11 P;obtain⟨X11,rfl,K11,jj,gg⟩:=K10.out.step HU.out P
  try clear q7 qL q0 q1 q6 u0 u1
  obtain⟨q7,qL,q0,q1⟩:=kid.out K11;obtain⟨q6,u0,u1⟩:=rfs.out K11;have T0:Hid (X2.n<X11.n):=Nat.lt_of_lt_of_le T0.out (jj);have T1:Hid (X7.n<X11.n):=Nat.lt_of_lt_of_le T1.out (jj);have K11:=hide K11;clear P jj gg;go_wp2_with fail
  refine(declare_any F X11 v1 _ _ K11.out.c hv.2 (by omega) (by omega) (by have:=K11.out.n2;have:=HB.out.n1;omega) K11.out.nk).mono ?_
  try rw[K11.out.top]
  try rw[K11.out.home]
  rintro e w12 P;obtain⟨X12,rfl,K12,jj,gg⟩:=K11.out.step HU.out P
  try clear q7 qL q0 q1 q6 u0 u1
  obtain⟨q7,qL,q0,q1⟩:=kid.out K12;obtain⟨q6,u0,u1⟩:=rfs.out K12;have T0:Hid (X2.n<X12.n):=Nat.lt_of_lt_of_le T0.out (jj);have T1:Hid (X7.n<X12.n):=Nat.lt_of_lt_of_le T1.out (jj);have K12:=hide K12;clear P jj gg;go_wp2_with fail
  refine((named_len hr F X12 (some ⟨b3,o3,none⟩) c1 S _ K12.out.c K12.out.nb.refs (HU.out.far K12.out.c) hrf.out K12.out.nk)).mono ?_
  try rw[K12.out.top]
  try rw[K12.out.home]
  rintro e w13 P;obtain⟨X13,rfl,K13,jj,gg⟩:=K12.out.step HU.out P
  try clear q7 qL q0 q1 q6 u0 u1
  obtain⟨q7,qL,q0,q1⟩:=kid.out K13;obtain⟨q6,u0,u1⟩:=rfs.out K13;have T0:Hid (X2.n<X13.n):=Nat.lt_of_lt_of_le T0.out (jj);have T1:Hid (X7.n<X13.n):=Nat.lt_of_lt_of_le T1.out (jj);have K13:=hide K13;clear P jj gg;go_wp2_with fail
  refine(mark_any F X13 ⟨3,false,X.top⟩ _ K13.out.c (by rw[K13.out.ms];have:=HB.out.m1;omega)).mono ?_;rintro e w14 P;obtain⟨X14,rfl,K14,jj⟩:=K13.out.mark HU.out P
  try clear q7 qL q0 q1 q6 u0 u1
  obtain⟨q7,qL,q0,q1⟩:=kid.out K14;obtain⟨q6,u0,u1⟩:=rfs.out K14;have T0:Hid (X2.n<X14.n):=Nat.lt_of_lt_of_le T0.out (Nat.le_of_eq jj.symm);have T1:Hid (X7.n<X14.n):=Nat.lt_of_lt_of_le T1.out (Nat.le_of_eq jj.symm);have K14:=hide K14;clear P jj;go_wp2_with fail
  refine(I1.out X14 _ K14.out.c (by rw[E1.out];exact⟨by rw[K14.out.top];omega,by rw[K14.out.top];have:=HB.out.t1;omega,by rw[K14.out.ms,List.length_append];have:=HB.out.m1;simp only[List.length_cons,List.length_nil];omega,by have:=K14.out.n2;have:=HB.out.n1;omega,K14.out.nk⟩) (fun hb=>by rw[K14.out.ms];exact hasLoop.push _ (.inl (hb1.out hb))) (by rw[K14.out.ms,K14.out.top];exact HM.out.push (.inr ⟨t0,Int.le_refl _,by show X.top<=X.top+2;omega⟩) t0)).mono ?_;rw[E1.out,K14.out.top,K14.out.home];rintro e w15 P;obtain⟨X15,rfl,K15,jj,gg⟩:=K14.out.step HU.out P
  try clear q7 qL q0 q1 q6 u0 u1
  obtain⟨q7,qL,q0,q1⟩:=kid.out K15;obtain⟨q6,u0,u1⟩:=rfs.out K15;have T0:Hid (X2.n<X15.n):=Nat.lt_of_lt_of_le T0.out (jj);have T1:Hid (X7.n<X15.n):=Nat.lt_of_lt_of_le T1.out (jj);have K15:=hide K15;clear P jj gg;go_wp2_with fail
  refine(unmark_any F X15 X.ms ⟨3,false,X.top⟩ _ K15.out.c K15.out.ms (by have:=HB.out.m1;omega)).mono ?_;rintro e w16 P;obtain⟨X16,a3,c3,L3,a4,c4,L4,rfl,K16,jj,_,_⟩:=Cur.unmark (v3:=.bool false) (v4:=.bool false) K15.out HU.out P
  try clear q7 qL q0 q1 q6 u0 u1
  obtain⟨q7,qL,q0,q1⟩:=kid.out K16;obtain⟨q6,u0,u1⟩:=rfs.out K16;have T0:Hid (X2.n<X16.n):=Nat.lt_of_lt_of_le T0.out (Nat.le_of_eq jj.symm);have T1:Hid (X7.n<X16.n):=Nat.lt_of_lt_of_le T1.out (Nat.le_of_eq jj.symm);have K16:=hide K16;clear P jj;go_wp2_with fail
  refine((forget_len hr F X16 (some ⟨b3,o3,none⟩) c1 S _ K16.out.c K16.out.nb.refs (HU.out.far K16.out.c) hrf.out K16.out.nk)).mono ?_
  try rw[K16.out.top]
  try rw[K16.out.home]
  rintro e w17 P;obtain⟨X17,rfl,K17,jj,gg⟩:=K16.out.step HU.out P
  try clear q7 qL q0 q1 q6 u0 u1
  obtain⟨q7,qL,q0,q1⟩:=kid.out K17;obtain⟨q6,u0,u1⟩:=rfs.out K17;have T0:Hid (X2.n<X17.n):=Nat.lt_of_lt_of_le T0.out (jj);have T1:Hid (X7.n<X17.n):=Nat.lt_of_lt_of_le T1.out (jj);have K17:=hide K17;clear P jj gg;go_wp2_with fail
  refine(drop8 F X17 _ K17.out.c K17.out.top (by omega) (by omega) t0 (by omega) (by have:=K17.out.n2;have:=HB.out.n1;omega) K17.out.nk).mono ?_
  try rw[K17.out.top]
  try rw[K17.out.home]
  rintro e w18 P;obtain⟨X18,rfl,K18,jj,gg⟩:=K17.out.step HU.out P
  try clear q7 qL q0 q1 q6 u0 u1
  obtain⟨q7,qL,q0,q1⟩:=kid.out K18;obtain⟨q6,u0,u1⟩:=rfs.out K18;have T0:Hid (X2.n<X18.n):=Nat.lt_of_lt_of_le T0.out (jj);have T1:Hid (X7.n<X18.n):=Nat.lt_of_lt_of_le T1.out (jj);have K18:=hide K18;clear P jj gg;have KD:=K18.out.below HU.out (Below.refl _ _).drew;obtain⟨g,cg,d9,⟨dv,dc⟩,dz,dm,dX⟩:=KD.aim HU.out T1.out (q:=1) (by omega);have d9':w18.cell? ⟨F.cb,9,none⟩=some (.slice (some ⟨g,0,none⟩) X18.n cg):=d9;have dc':w18.cell? ⟨g,X7.n * 5+1,none⟩=some dv:=dc;have dz':w18.frozen? ⟨g,X7.n * 5+1,none⟩=false:=dz;have KD:=hide KD;have DX:=hide dX;clear d9 dc dz dX;go_wp2_with fail
  try clear q7 qL q0 q1 q6 u0 u1
  go_region_with (first | (go_at_call 32;refine(at_any F X18 _ KD.out.c).mono ?_;rintro e w' ⟨rfl,rfl⟩))
  all_goals
   obtain⟨X19,K19,ee,oo,gg⟩:=DX.out (.int .i64 X18.n);obtain⟨w19,hw⟩:∃ z,z=(w18.setCell ⟨g,X7.n * 5+1,none⟩ (.int .i64 X18.n)).drew:=⟨_,rfl⟩;have K19:=hide (show Cur F X W1 S w.heap.size n (some ⟨b3,o3,none⟩) c1 (some ⟨b2,o2,none⟩) c2 _ _ _ _ X19 w19 by rw[hw];exact⟨K19.c,K19.f,K19.top,K19.home,K19.ms,K19.n1,K19.n2,K19.nk,K19.nb⟩);rw[<-hw];have T0:Hid (X2.n<X19.n):=by show _<_;rw[ee];exact T0.out
   have T1:Hid (X7.n<X19.n):=by show _<_;rw[ee];exact T1.out
   clear d9' dc' dz' hw oo gg ee KD DX;obtain⟨q7,qL,q0,q1⟩:=kid.out K19.out;obtain⟨q6,u0,u1⟩:=rfs.out K19.out;go_wp2_with fail
   go_end0
   exact⟨_,rfl,K19.out.c,F1.out.trans K19.out.f,K19.out.top,K19.out.home,K19.out.ms,K19.out.n1,Nat.le_trans K19.out.n2 (by omega),K19.out.nk⟩
end Go.Proofs.YtomcjennjcpdnaaGreatDoor

import Derived.Test.YtomcjennjcpdnaaGreatDoorPart33
set_option linter.unusedSimpArgs false
set_option linter.unusedVariables false
set_option maxHeartbeats 16000000
namespace Go.Proofs.YtomcjennjcpdnaaGreatDoor
set_option maxRecDepth 100000
set_option maxHeartbeats 4000000
open Go.RowKit
attribute [local go_sem] run_store_float
def StmOk0 (F:CF)(ns:List NodeD)(i:Nat):Prop:=∀(X:CX)(w:World),CC F X w->Bud X (Wt ns i)->(brkF ns i=true->hasLoop X.ms)->MOrd X.ms X.top ->
 Calls Tryz.prog 55 #[.pointer (some ⟨F.cb,0,none⟩),.int .i64 i] w (CPost F X w (.tuple #[]) X.top (hF ns i X.top X.home) (2000000 * Wt ns i))
theorem StmOk.zero {F:CF}{ns:List NodeD}{i:Nat}(h:StmOk F ns i)(hk:(nd ns i).kind≠2):StmOk0 F ns i:=fun X w h1 h2 h3 h4=>by
 have:=h X w h1 h2 h3 h4;have e:letLen ns i=0:=by unfold letLen;rw[Int.toNat_natCast,if_neg hk]
 rw[e,Int.add_zero]at this;exact this
theorem branch3 {F:CF}{l:List FnD}{f:Nat}{S:Nat->Prop}(U:UOk F l f S)(X:CX)(n:NodeD)(a1:Option Addr)(c1 b2 o2 c2 k0 k1 k2:Nat)(w:World)(h:CC F X w)(ek:n.kind=5)(hlk:n.kids=[(k0:Int),(k1:Int),(k2:Int)])(r1:IntsAt w S a1 n.refs)(r2:IntsAt w S (some ⟨b2,o2,none⟩) n.kids)
  (I0:OneOk F (fnD l f).nodes k0)(I1:BlkOk F (fnD l f).nodes k1)(hb1:brkF (fnD l f).nodes k1=true->hasLoop X.ms)(hb2:brkF (fnD l f).nodes k2=true->hasLoop X.ms)(hk2:k2<(fnD l f).nodes.length)(I2:((nd (fnD l f).nodes k2).kind=5/\StmOk0 F (fnD l f).nodes k2)\/((nd (fnD l f).nodes k2).kind=1/\BlkOk F (fnD l f).nodes k2))(hm:MOrd X.ms X.top)(B:Bud X (Wt (fnD l f).nodes k0+Wt (fnD l f).nodes k1+Wt (fnD l f).nodes k2+2)) :
  Calls Tryz.prog 82 #[.pointer (some ⟨F.cb,0,none⟩),.agg #[.int .i64 5,.int .i64 n.line,.int .i64 n.op,.int .i64 n.num,.float .f64 n.flt,.string n.str,.slice a1 n.refs.length c1,.slice (some ⟨b2,o2,none⟩) 3 c2]] w (CPost F X w (.tuple #[]) X.top (hF (fnD l f).nodes k2 X.top (hF (fnD l f).nodes k1 X.top X.home)) (2000000 * (Wt (fnD l f).nodes k0+Wt (fnD l f).nodes k1+Wt (fnD l f).nodes k2)+10)):=by
 have t0:=B.t0;have t1:X.top<=2000000:=by have:=B.t1;omega
 have hl:n.kids.length=3:=by rw[hlk];rfl
 have N1:=hide (NBox.new (p1:=c1) (p2:=c2) ek rfl hl U h r1 r2);have HU:=hide U;have H:=hide h;have HB:=hide B;have HM:=hide hm;have I0:=hide I0;have I1:=hide I1;have I2:=hide I2;have hb1:=hide hb1;have hb2:=hide hb2;obtain⟨W1,hW1⟩:∃ W1:World,W1=w.alloc (.cells #[.int .i64 5,.int .i64 n.line,.int .i64 n.op,.int .i64 n.num,.float .f64 n.flt,.string n.str,.slice a1 n.refs.length c1,.slice (some ⟨b2,o2,none⟩) 3 c2] 97):=⟨_,rfl⟩;have F1:Hid (Fr X.O X.O w W1):=by show Fr _ _ _ _;rw[hW1];exact Fr.refl.alloc _
 have K1:Hid (Cur F X W1 S w.heap.size n a1 c1 (some ⟨b2,o2,none⟩) c2 X.ms X.top X.home 0 X W1):=by show Cur _ _ _ _ _ _ _ _ _ _ _ _ _ _ _ _;rw[hW1];exact Cur.start U (h.alloc _) N1.out B.nk
 have HW1:=hide hW1;clear h B U r1 r2 hm hW1 N1;generalize hw0:Wt (fnD l f).nodes k0=V0 at *;generalize hw1:Wt (fnD l f).nodes k1=V1 at *;generalize hw2:Wt (fnD l f).nodes k2=V2 at *;have E0:=hide hw0;have E1:=hide hw1;have E2:=hide hw2;clear hw0 hw1 hw2;have kid:Hid (∀{ms t hh d Y w'},Cur F X W1 S w.heap.size n a1 c1 (some ⟨b2,o2,none⟩) c2 ms t hh d Y w'->w'.cell? ⟨w.heap.size,7,none⟩=some (.slice (some ⟨b2,o2,none⟩) 3 c2)/\w'.cell? ⟨w.heap.size,1,none⟩=some (.int .i64 n.line)/\w'.cell? ⟨b2,o2,none⟩=some (.int .i64 (k0:Int))/\w'.cell? ⟨b2,o2+1,none⟩=some (.int .i64 (k1:Int))/\w'.cell? ⟨b2,o2+2,none⟩=some (.int .i64 (k2:Int))):=fun K=>by
  have q7:=K.nb.c7;rw[hl]at q7;have q0:=K.nb.kids.cellAt (j:=0) (by omega);have q1:=K.nb.kids.cellAt (j:=1) (by omega);have q2:=K.nb.kids.cellAt (j:=2) (by omega);simp only[hlk,List.getElem?_cons_succ,List.getElem?_cons_zero,Option.getD_some,Nat.add_zero]at q0 q1 q2;exact⟨q7,K.nb.c1,q0,q1,q2⟩
 go_enter Tryz.func82,Tryz.ntmps82
 go_upto_region 1 with fail
 rw[<-HW1.out];obtain⟨q7,qL,q0,q1,q2⟩:=kid.out K1.out;go_wp2_with fail
 refine(I0.out X _ K1.out.c (by rw[E0.out];exact⟨by rw[K1.out.top];omega,by rw[K1.out.top];have:=HB.out.t1;omega,by rw[K1.out.ms];have:=HB.out.m1;omega,by have:=K1.out.n2;have:=HB.out.n1;omega,K1.out.nk⟩)).mono ?_;rw[E0.out,K1.out.top,K1.out.home];rintro e w2 P;obtain⟨X2,rfl,K2,jj,gg⟩:=K1.out.step HU.out P
 try clear q7 qL q0 q1 q2
 obtain⟨q7,qL,q0,q1,q2⟩:=kid.out K2;have K2:=hide K2;clear P jj gg;go_wp2_with fail
 refine(take_any _ _ (by omega) (by omega)).mono ?_;rintro e w' ⟨rfl,rfl⟩;go_wp2_with fail
 refine(put_c F X2 _ _ _ _ _ _ K2.out.c (by have:=K2.out.n2;have:=HB.out.n1;omega) K2.out.nk).mono ?_;rintro e w3 P;obtain⟨X3,rfl,K3,jj,gg⟩:=K2.out.put HU.out P
 try clear q7 qL q0 q1 q2
 obtain⟨q7,qL,q0,q1,q2⟩:=kid.out K3;have T0:Hid (X2.n<X3.n):=jj;have K3:=hide K3;clear P jj gg;have c11:=K3.out.c.c11;have z11:=K3.out.c.fz 11;have K4:=hide (K3.out.setTop HU.out X.top);obtain⟨X4,hX4⟩:∃ Z:CX,Z={ X3 with top:=X.top }:=⟨_,rfl⟩;rw[<-hX4]at K4;have T0:Hid (X2.n<X4.n):=by show _<_;rw[hX4];exact T0.out
 clear hX4
 go_upto_region 4 with fail
 generalize w3.setCell ⟨F.cb,11,none⟩ (.int .i64 X.top)=w4 at *;clear q7 qL q0 q1 q2 c11 z11;obtain⟨q7,qL,q0,q1,q2⟩:=kid.out K4.out;go_wp2_with fail
 refine(I1.out X4 _ K4.out.c (by rw[E1.out];exact⟨by rw[K4.out.top];omega,by rw[K4.out.top];have:=HB.out.t1;omega,by rw[K4.out.ms];have:=HB.out.m1;omega,by have:=K4.out.n2;have:=HB.out.n1;omega,K4.out.nk⟩) (fun hb=>by rw[K4.out.ms];exact hb1.out hb) (by rw[K4.out.ms,K4.out.top];exact HM.out)).mono ?_;rw[E1.out,K4.out.top,K4.out.home];rintro e w5 P;obtain⟨X5,rfl,K5,jj,gg⟩:=K4.out.step HU.out P
 try clear q7 qL q0 q1 q2
 obtain⟨q7,qL,q0,q1,q2⟩:=kid.out K5;have T0:Hid (X2.n<X5.n):=Nat.lt_of_lt_of_le T0.out (jj);have K5:=hide K5;clear P jj gg;go_wp2_with fail
 refine(put_c F X5 _ _ _ _ _ _ K5.out.c (by have:=K5.out.n2;have:=HB.out.n1;omega) K5.out.nk).mono ?_;rintro e w6 P;obtain⟨X6,rfl,K6,jj,gg⟩:=K5.out.put HU.out P
 try clear q7 qL q0 q1 q2
 obtain⟨q7,qL,q0,q1,q2⟩:=kid.out K6;have T0:Hid (X2.n<X6.n):=Nat.lt_of_lt_of_le T0.out (Nat.le_of_lt jj);have T1:Hid (X5.n<X6.n):=jj;have K6:=hide K6;clear P jj gg;have KD:=K6.out.below HU.out (Below.refl _ _).drew;obtain⟨g,cg,d9,⟨dv,dc⟩,dz,dm,dX⟩:=KD.aim HU.out T0.out (q:=2) (by omega);have d9':w6.cell? ⟨F.cb,9,none⟩=some (.slice (some ⟨g,0,none⟩) X6.n cg):=d9;have dc':w6.cell? ⟨g,X2.n * 5+2,none⟩=some dv:=dc;have dz':w6.frozen? ⟨g,X2.n * 5+2,none⟩=false:=dz;have KD:=hide KD;have DX:=hide dX;clear d9 dc dz dX;go_wp2_with fail
 try clear q7 qL q0 q1 q2
 go_region_with (first | (go_at_call 32;refine(at_any F X6 _ KD.out.c).mono ?_;rintro e w' ⟨rfl,rfl⟩))
 all_goals
  obtain⟨X7,K7,ee,oo,gg⟩:=DX.out (.int .i64 X6.n);obtain⟨w7,hw⟩:∃ z,z=(w6.setCell ⟨g,X2.n * 5+2,none⟩ (.int .i64 X6.n)).drew:=⟨_,rfl⟩;have K7:=hide (show Cur F X W1 S w.heap.size n a1 c1 (some ⟨b2,o2,none⟩) c2 _ _ _ _ X7 w7 by rw[hw];exact⟨K7.c,K7.f,K7.top,K7.home,K7.ms,K7.n1,K7.n2,K7.nk,K7.nb⟩);rw[<-hw];have T0:Hid (X2.n<X7.n):=by show _<_;rw[ee];exact T0.out
  have T1:Hid (X5.n<X7.n):=by show _<_;rw[ee];exact T1.out
  clear d9' dc' dz' hw oo gg ee KD DX;obtain⟨q7,qL,q0,q1,q2⟩:=kid.out K7.out;go_wp2_with fail
  refine(node_any HU.out X7 k2 _ K7.out.c hk2).mono ?_;rintro e wN ⟨x1,y1,x2,y2,rfl,_,_,_,bl⟩;unfold nodeV;have KM:=K7.out.below HU.out bl
  try clear q7 qL q0 q1 q2
  obtain⟨q7,qL,q0,q1,q2⟩:=kid.out KM;have hz1:w.heap.size<wN.heap.size:=World.block_lt_of_cell? _ _ q7;have hz2:b2<wN.heap.size:=World.block_lt_of_cell? _ _ q0;have KN:Hid (∀ o,Cur F X W1 S w.heap.size n a1 c1 (some ⟨b2,o2,none⟩) c2 _ _ _ _ X7 (wN.alloc o)):=fun o=>KM.below HU.out ((Below.refl _ _).alloc (Nat.le_refl _) _);clear KM bl;rcases I2.out with⟨hkd,I3⟩ | ⟨hkd,I3⟩
  all_goals
   have I3:=hide I3;go_wp2_with fail
   refine(I3.out X7 _ (KN.out _).c (by rw[E2.out];exact⟨by rw[K7.out.top];omega,by rw[K7.out.top];have:=HB.out.t1;omega,by rw[K7.out.ms];have:=HB.out.m1;omega,by have:=K7.out.n2;have:=HB.out.n1;omega,K7.out.nk⟩) (fun hb=>by rw[K7.out.ms];exact hb2.out hb) (by rw[K7.out.ms,K7.out.top];exact HM.out)).mono ?_;rw[E2.out,K7.out.top,K7.out.home];rintro e w8 P;obtain⟨X8,rfl,K8,jj,gg⟩:=(KN.out _).step HU.out P
   try clear q7 qL q0 q1 q2
   obtain⟨q7,qL,q0,q1,q2⟩:=kid.out K8;have T0:Hid (X2.n<X8.n):=Nat.lt_of_lt_of_le T0.out (jj);have T1:Hid (X5.n<X8.n):=Nat.lt_of_lt_of_le T1.out (jj);have K8:=hide K8;clear P jj gg;have KD:=K8.out.below HU.out (Below.refl _ _).drew;obtain⟨g,cg,d9,⟨dv,dc⟩,dz,dm,dX⟩:=KD.aim HU.out T1.out (q:=1) (by omega);have d9':w8.cell? ⟨F.cb,9,none⟩=some (.slice (some ⟨g,0,none⟩) X8.n cg):=d9;have dc':w8.cell? ⟨g,X5.n * 5+1,none⟩=some dv:=dc;have dz':w8.frozen? ⟨g,X5.n * 5+1,none⟩=false:=dz;have KD:=hide KD;have DX:=hide dX;clear d9 dc dz dX;go_wp2_with fail
   try clear q7 qL q0 q1 q2
   go_region_with (first | (go_at_call 32;refine(at_any F X8 _ KD.out.c).mono ?_;rintro e w' ⟨rfl,rfl⟩))
   all_goals
    obtain⟨X9,K9,ee,oo,gg⟩:=DX.out (.int .i64 X8.n);obtain⟨w9,hw⟩:∃ z,z=(w8.setCell ⟨g,X5.n * 5+1,none⟩ (.int .i64 X8.n)).drew:=⟨_,rfl⟩;have K9:=hide (show Cur F X W1 S w.heap.size n a1 c1 (some ⟨b2,o2,none⟩) c2 _ _ _ _ X9 w9 by rw[hw];exact⟨K9.c,K9.f,K9.top,K9.home,K9.ms,K9.n1,K9.n2,K9.nk,K9.nb⟩);rw[<-hw];have T0:Hid (X2.n<X9.n):=by show _<_;rw[ee];exact T0.out
    have T1:Hid (X5.n<X9.n):=by show _<_;rw[ee];exact T1.out
    clear d9' dc' dz' hw oo gg ee KD DX;obtain⟨q7,qL,q0,q1,q2⟩:=kid.out K9.out;go_wp2_with fail
    go_end0
    exact⟨_,rfl,K9.out.c,F1.out.trans K9.out.f,K9.out.top,K9.out.home,K9.out.ms,K9.out.n1,Nat.le_trans K9.out.n2 (by omega),K9.out.nk⟩
end Go.Proofs.YtomcjennjcpdnaaGreatDoor

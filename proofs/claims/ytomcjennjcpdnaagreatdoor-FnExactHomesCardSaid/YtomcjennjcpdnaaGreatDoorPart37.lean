import Derived.Test.YtomcjennjcpdnaaGreatDoorPart33
set_option linter.unusedSimpArgs false
set_option linter.unusedVariables false
set_option maxHeartbeats 16000000
namespace Go.Proofs.YtomcjennjcpdnaaGreatDoor
set_option maxRecDepth 100000
set_option maxHeartbeats 4000000
open Go.RowKit
attribute [local go_sem] run_store_float
theorem while8 {F:CF}{l:List FnD}{f:Nat}{S:Nat->Prop}(U:UOk F l f S)(X:CX)(n:NodeD)(a1:Option Addr)(c1 b2 o2 c2 k0 k1:Nat)(w:World)(h:CC F X w)(ek:n.kind=6)(hlk:n.kids=[(k0:Int),(k1:Int)])(r1:IntsAt w S a1 n.refs)(r2:IntsAt w S (some ⟨b2,o2,none⟩) n.kids)
  (I0:OneOk F (fnD l f).nodes k0)(I1:BlkOk F (fnD l f).nodes k1)(hm:MOrd X.ms X.top)(B:Bud X (Wt (fnD l f).nodes k0+Wt (fnD l f).nodes k1+2)) :
  Calls Tryz.prog 83 #[.pointer (some ⟨F.cb,0,none⟩),.agg #[.int .i64 6,.int .i64 n.line,.int .i64 n.op,.int .i64 n.num,.float .f64 n.flt,.string n.str,.slice a1 n.refs.length c1,.slice (some ⟨b2,o2,none⟩) 2 c2]] w (CPost F X w (.tuple #[]) X.top (hF (fnD l f).nodes k1 X.top X.home) (2000000 * (Wt (fnD l f).nodes k0+Wt (fnD l f).nodes k1)+10)):=by
 have t0:=B.t0;have t1:X.top<=2000000:=by have:=B.t1;omega
 have hl:n.kids.length=2:=by rw[hlk];rfl
 have N1:=hide (NBox.new (p1:=c1) (p2:=c2) ek rfl hl U h r1 r2);have HU:=hide U;have H:=hide h;have HB:=hide B;have HM:=hide hm;have I0:=hide I0;have I1:=hide I1;obtain⟨W1,hW1⟩:∃ W1:World,W1=w.alloc (.cells #[.int .i64 6,.int .i64 n.line,.int .i64 n.op,.int .i64 n.num,.float .f64 n.flt,.string n.str,.slice a1 n.refs.length c1,.slice (some ⟨b2,o2,none⟩) 2 c2] 97):=⟨_,rfl⟩;have F1:Hid (Fr X.O X.O w W1):=by show Fr _ _ _ _;rw[hW1];exact Fr.refl.alloc _
 have K1:Hid (Cur F X W1 S w.heap.size n a1 c1 (some ⟨b2,o2,none⟩) c2 X.ms X.top X.home 0 X W1):=by show Cur _ _ _ _ _ _ _ _ _ _ _ _ _ _ _ _;rw[hW1];exact Cur.start U (h.alloc _) N1.out B.nk
 have HW1:=hide hW1;clear h B U r1 r2 hm hW1 N1;generalize hw0:Wt (fnD l f).nodes k0=V0 at *;generalize hw1:Wt (fnD l f).nodes k1=V1 at *;have E0:=hide hw0;have E1:=hide hw1;clear hw0 hw1;have kid:Hid (∀{ms t hh d Y w'},Cur F X W1 S w.heap.size n a1 c1 (some ⟨b2,o2,none⟩) c2 ms t hh d Y w'->w'.cell? ⟨w.heap.size,7,none⟩=some (.slice (some ⟨b2,o2,none⟩) 2 c2)/\w'.cell? ⟨b2,o2,none⟩=some (.int .i64 (k0:Int))/\w'.cell? ⟨b2,o2+1,none⟩=some (.int .i64 (k1:Int))/\w'.cell? ⟨w.heap.size,1,none⟩=some (.int .i64 n.line)):=fun K=>by
  have q7:=K.nb.c7;have q0:=K.nb.kids.cellAt (j:=0) (by omega);have q1:=K.nb.kids.cellAt (j:=1) (by omega);rw[hl]at q7;simp only[hlk,List.getElem?_cons_succ,List.getElem?_cons_zero,Option.getD_some,Nat.add_zero]at q0 q1;exact⟨q7,q0,q1,K.nb.c1⟩
 go_enter Tryz.func83,Tryz.ntmps83
 go_upto_region 1 with fail
 rw[<-HW1.out];go_wp2_with fail
 refine(put_c F X _ _ _ _ _ _ K1.out.c (by have:=HB.out.n1;omega) K1.out.nk).mono ?_;rintro e w2 P;obtain⟨X2,rfl,K2,j2,_⟩:=K1.out.put HU.out P;obtain⟨q7,q0,_,_⟩:=kid.out K2;have K2:=hide K2;clear P;go_wp2_with fail
 refine(I0.out X2 _ K2.out.c (by rw[E0.out];exact⟨by rw[K2.out.top];exact t0,by rw[K2.out.top];have:=HB.out.t1;omega,by rw[K2.out.ms];have:=HB.out.m1;omega,by have:=K2.out.n2;have:=HB.out.n1;omega,K2.out.nk⟩)).mono ?_;rw[E0.out,K2.out.top,K2.out.home];rintro e w3 P;obtain⟨X3,rfl,K3,j3,_⟩:=K2.out.step HU.out P;have K3:=hide K3;clear P q7 q0;go_wp2_with fail
 refine(take_any _ _ (by omega) (by omega)).mono ?_;rintro e w' ⟨rfl,rfl⟩;go_wp2_with fail
 refine(put_c F X3 _ _ _ _ _ _ K3.out.c (by have:=K3.out.n2;have:=HB.out.n1;omega) K3.out.nk).mono ?_;rintro e w4 P;obtain⟨X4,rfl,K4,j4,_⟩:=K3.out.put HU.out P;have c11:=K4.c.c11;have z11:=K4.c.fz 11;have K4:=hide K4;have K5:=hide (K4.out.setTop HU.out X.top);clear P;have J4:=hide j4;clear j2 j3 j4;go_wp2_with fail
 refine(mark_any F _ ⟨4,false,X.top⟩ _ K5.out.c (by rw[K5.out.ms];have:=HB.out.m1;omega)).mono ?_;rintro e w6 P;obtain⟨X6,rfl,K6,j6⟩:=K5.out.mark HU.out P;obtain⟨q7,_,q1,_⟩:=kid.out K6;have K6:=hide K6;have J6:=hide j6;clear P c11 z11 j6;go_wp2_with fail
 refine(I1.out X6 _ K6.out.c (by rw[E1.out];exact⟨by rw[K6.out.top];exact t0,by rw[K6.out.top];have:=HB.out.t1;omega,by rw[K6.out.ms,List.length_append];have:=HB.out.m1;simp only[List.length_cons,List.length_nil];omega,by have:=K6.out.n2;have:=HB.out.n1;omega,K6.out.nk⟩) (fun _=>by rw[K6.out.ms];exact hasLoop.push _ (.inr rfl)) (by rw[K6.out.ms,K6.out.top];exact HM.out.push (.inr ⟨t0,Int.le_refl _,Int.le_refl _⟩) t0)).mono ?_;rw[E1.out,K6.out.top,K6.out.home];rintro e w7 P;obtain⟨X7,rfl,K7,j7,_⟩:=K6.out.step HU.out P;have K7:=hide K7;have J7:=hide j7;clear P q7 q1 j7;go_wp2_with fail
 refine(unmark_any F X7 X.ms ⟨4,false,X.top⟩ _ K7.out.c K7.out.ms (by have:=HB.out.m1;omega)).mono ?_;rintro e w8 P;obtain⟨X8,a3,c3,L3,a4,c4,L4,rfl,K8,j8,A3,A4⟩:=Cur.unmark (v3:=.bool false) (v4:=.bool false) K7.out HU.out P;have bb:Below w8.heap.size w8 (w8.alloc (.cells #[.int .i64 4,.bool false,.int .i64 X.top,.slice a3 L3.length c3,.slice a4 L4.length c4] 103)).drew:=((Below.refl _ _).alloc (Nat.le_refl _) _).drew;have K9:=hide (K8.below HU.out bb);have A3:=hide (A3.fr (Fr.of_below bb) (Nat.le_refl _));have A4:=hide (A4.fr (Fr.of_below bb) (Nat.le_refl _));have MB:Hid (MBox w8.heap.size (.slice a3 L3.length c3) (.slice a4 L4.length c4) X8 (w8.alloc (.cells #[.int .i64 4,.bool false,.int .i64 X.top,.slice a3 L3.length c3,.slice a4 L4.length c4] 103)).drew):=⟨by simp[go_sem],by simp[go_sem],fun ho=>by have:=(K8.c.low _ ho).2;omega⟩;have J8:Hid (X3.n<X8.n):=by show _<_;have:=J4.out;have:=J6.out;have:=J7.out;simp only at *;omega
 clear P K8 j8 bb;have PT:Hid (∀ to_,Calls Tryz.prog 113 #[.pointer (some ⟨F.cb,0,none⟩),.slice a4 L4.length c4,.int .i64 to_] (w8.alloc (.cells #[.int .i64 4,.bool false,.int .i64 X.top,.slice a3 L3.length c3,.slice a4 L4.length c4] 103)).drew (CPost F X8 (w8.alloc (.cells #[.int .i64 4,.bool false,.int .i64 X.top,.slice a3 L3.length c3,.slice a4 L4.length c4] 103)).drew (.tuple #[]) X8.top X8.home 0)):=fun to_=>patch_any F X8 a4 L4 c4 to_ _ _ K9.out.c A4.out.ints (fun b hb=>⟨(A4.out.own.lt b hb).2,A4.out.far b hb⟩) A4.out.low K9.out.nk;generalize hl3:L3.length=n3 at *;generalize hl4:L4.length=n4 at *;have HL3:=hide hl3;clear hl3 hl4;go_wp2_with fail
 go_region_with (first | (go_at_call 32;refine(at_any F X8 _ K9.out.c).mono ?_;rintro e w' ⟨rfl,rfl⟩) | (go_at_call 113;refine(PT.out _).mono ?_;rintro e w10 ⟨Z10,rfl,C10,f10,s10⟩))
 all_goals
  obtain⟨X10,_,K10,j10,g10⟩:=K9.out.step HU.out (v:=.tuple #[]) (e:=.returned (.tuple #[])) ⟨Z10,rfl,C10,f10,s10⟩;rw[K9.out.top,K9.out.home]at K10;obtain⟨_,_,_,q1⟩:=kid.out K10;have K10:=hide K10;have A5:=hide (A3.out.fr g10 j10);have MB2:=hide (MB.out.fr g10);have J10:Hid (X3.n<X10.n):=Nat.lt_of_lt_of_le J8.out j10;clear C10 f10 s10 g10 j10;go_wp2_with fail
  refine(put_c F X10 _ _ _ _ _ _ K10.out.c (by have:=K10.out.n2;have:=HB.out.n1;omega) K10.out.nk).mono ?_;rintro e w11 P;obtain⟨X11,rfl,K11,j11,g11⟩:=K10.out.put HU.out P;have K11:=hide K11;have A6:=hide (A5.out.fr g11 (Nat.le_of_lt j11));have MB3:=hide (MB2.out.fr g11);have J11:Hid (X3.n<X11.n):=Nat.lt_trans J10.out j11;clear P j11 g11 q1;go_wp2_with fail
  refine(put_c F X11 _ _ _ _ _ _ K11.out.c (by have:=K11.out.n2;have:=HB.out.n1;omega) K11.out.nk).mono ?_;rintro e w12 P;obtain⟨X12,rfl,K12,j12,g12⟩:=K11.out.put HU.out P;have J12:X3.n<X12.n:=Nat.lt_trans J11.out j12;have KD:=K12.below HU.out (Below.refl _ _).drew;obtain⟨g,cg,d9,⟨dv,dc⟩,dz,dm,dX⟩:=KD.aim HU.out J12 (q:=2) (by omega);have d9':w12.cell? ⟨F.cb,9,none⟩=some (.slice (some ⟨g,0,none⟩) X12.n cg):=d9;have dc':w12.cell? ⟨g,X3.n * 5+2,none⟩=some dv:=dc;have dz':w12.frozen? ⟨g,X3.n * 5+2,none⟩=false:=dz;have KD:=hide KD;have DX:=hide dX;have A7:=hide ((A6.out.fr g12 (Nat.le_of_lt j12)).fr (Fr.of_below (Below.refl _ _).drew) (Nat.le_refl _));have MB4:=hide ((MB3.out.fr g12).fr (Fr.of_below (Below.refl _ _).drew));clear P j12 g12 K12 d9 dc dz dX;go_wp2_with fail
  go_region_with (first | (go_at_call 32;refine(at_any F X12 _ KD.out.c).mono ?_;rintro e w' ⟨rfl,rfl⟩))
  all_goals
   obtain⟨X13,K13,e13,o13,g13⟩:=DX.out (.int .i64 X12.n);have K13:=hide K13;have g13':Fr X12.O X13.O w12.drew (w12.drew.setCell ⟨g,X3.n * 5+2,none⟩ (.int .i64 X12.n)):=by rw[o13];exact g13
   have A8:=hide (A7.out.fr g13' (Nat.le_of_eq e13.symm));have MB5:=hide (MB4.out.fr g13');have hE13:=hide e13;clear g13 g13' o13 e13 d9' dc' dz';obtain⟨w13,hw13⟩:∃ w13,w13=(w12.setCell ⟨g,X3.n * 5+2,none⟩ (.int .i64 X12.n)).drew:=⟨_,rfl⟩;have K14:Hid (Cur F X W1 S w.heap.size n a1 c1 (some ⟨b2,o2,none⟩) c2 X.ms X.top (hF (fnD l f).nodes k1 X.top X.home) (2000000 * (V0+V1)+10) X13 w13):=by
    show Cur _ _ _ _ _ _ _ _ _ _ _ _ _ _ _ _;rw[hw13];have K:=K13.out;exact⟨K.c,K.f,K.top,K.home,K.ms,K.n1,Nat.le_trans K.n2 (by omega),K.nk,K.nb⟩
   have A9:Hid (Jl F X13 w13 (.slice a3 n3 c3) L3):=by show Jl _ _ _ _ _;rw[hw13];exact⟨A8.out.own,A8.out.far,A8.out.low⟩
   have m3:w13.cell? ⟨w8.heap.size,3,none⟩=some (.slice a3 n3 c3):=by rw[hw13];exact MB5.out.c3
   rw[<-hw13];clear hw13 K13 A8;have K15:=hide (K14.out.below HU.out (Below.refl _ _).drew);have A10:=hide (A9.out.fr (Fr.of_below (Below.refl _ _).drew) (Nat.le_refl _));have PT2:Hid (∀ to_,Calls Tryz.prog 113 #[.pointer (some ⟨F.cb,0,none⟩),.slice a3 n3 c3,.int .i64 to_] w13.drew (CPost F X13 w13.drew (.tuple #[]) X13.top X13.home 0)):=fun to_=>by
    have q:=A10.out;rw[<-HL3.out]at q ⊢;exact patch_any F X13 a3 L3 c3 to_ _ _ K15.out.c q.ints (fun b hb=>⟨(q.own.lt b hb).2,q.far b hb⟩) q.low K15.out.nk
   go_wp2_with fail
   go_region_with (first | (go_at_call 32;refine(at_any F X13 _ K15.out.c).mono ?_;rintro e w' ⟨rfl,rfl⟩) | (go_at_call 113;refine(PT2.out _).mono ?_;rintro e w16 ⟨Z16,rfl,C16,f16,s16⟩))
   all_goals
    obtain⟨X16,_,K16,_,_⟩:=K15.out.step HU.out (v:=.tuple #[]) (e:=.returned (.tuple #[])) ⟨Z16,rfl,C16,f16,s16⟩;rw[K15.out.top,K15.out.home]at K16;have K16:=hide K16;clear C16 f16 s16
    go_end0
    exact⟨X16,rfl,K16.out.c,F1.out.trans K16.out.f,K16.out.top,K16.out.home,K16.out.ms,K16.out.n1,K16.out.n2,K16.out.nk⟩
end Go.Proofs.YtomcjennjcpdnaaGreatDoor

import Derived.Test.YtomcjennjcpdnaaGreatDoorPart26
set_option linter.unusedSimpArgs false
set_option linter.unusedVariables false
set_option maxHeartbeats 4000000
namespace Go.Proofs.YtomcjennjcpdnaaGreatDoor
set_option maxRecDepth 100000
set_option maxHeartbeats 4000000
open Go.RowKit
attribute [local go_sem] run_store_float
theorem kids_zero {ns:List NodeD}(T:TreeOk ns){i:Nat}(hi:i<ns.length)(hl:(nd ns i).kids.length=0):Wt ns i=4+(nd ns i).refs.length:=by
 have hW:=Wt_eq T hi;rw[List.eq_nil_of_length_eq_zero hl]at hW;simpa[sumAll,own1]using hW
theorem one_20 {F:CF}{l:List FnD}{f:Nat}{S:Nat->Prop}(U:UOk F l f S)(T:TreeOk (fnD l f).nodes)(i:Nat)(hi:i<(fnD l f).nodes.length)(hk:(nd (fnD l f).nodes i).kind=20)(hl:(nd (fnD l f).nodes i).kids.length=0):OneOk F (fnD l f).nodes i:=by
 intro X w h B;have hW:=kids_zero T hi hl;have HU:=hide U;have H:=hide h;have HB:=hide B;have HW:=hide hW;have hn:=node_any U X i w h hi;clear h B U hW T;generalize nd (fnD l f).nodes i=n at *;generalize fnD l f=fn at *;have t0:=HB.out.t0;have t1:X.top<=2000000:=by have:=HB.out.t1;omega
 go_enter Tryz.func89,Tryz.ntmps89;go_wp2_with fail
 refine hn.mono ?_;rintro e w1 ⟨a1,c1,a2,c2,rfl,r1,r2,r3,b1⟩;have C1:=H.out.below b1;have c11:=C1.c11;have hcl:=C1.cbl;have r1':=r1.keep b1 (fun b hb=>(HU.out.far H.out b hb).1);have r2':=r2.keep b1 (fun b hb=>(HU.out.far H.out b hb).1);have N1:=hide (NBox.new (p1:=c1) (p2:=c2) hk rfl hl HU.out C1 r1' r2');have F1:Hid (Fr X.O X.O w w1):=.of_below b1;have HC1:=hide C1;unfold nodeV;rw[hl];rw[hl]at r3;clear C1 hn r1 r2 b1 r1' r2';go_wp2_with fail
 refine(push_c F X _ (HC1.out.alloc _) t0 (by omega) HB.out.nk).mono ?_;rintro e w2 ⟨X2,rfl,C2,f2,s2⟩;have R2:=hide (And.intro C2 (And.intro ((F1.out.alloc _).trans f2) s2));clear N1 C2 f2 s2 c11 hcl;go_wp2_with fail
 refine(load_any F X2 _ ⟨0,0,0,ByteArray.empty,0⟩ _ R2.out.1 R2.out.2.2.nk (by have:=R2.out.2.2.n2;have:=HB.out.n1;have:=HW.out;omega)).mono ?_;rintro e w3 ⟨X3,rfl,C3,f3,s3⟩;rw[R2.out.2.2.home]at s3;have c11:=C3.c11;have z11:=C3.fz 11;have R9:=hide (And.intro C3 (And.intro (R2.out.2.1.trans f3) (R2.out.2.2.trans s3)));go_wp2_with fail
 go_ret;exact CPost.fin R9.out.1 R9.out.2.1 R9.out.2.2 (by have:=HW.out;omega)
theorem one_21 {F:CF}{l:List FnD}{f:Nat}{S:Nat->Prop}(U:UOk F l f S)(T:TreeOk (fnD l f).nodes)(i:Nat)(hi:i<(fnD l f).nodes.length)(hk:(nd (fnD l f).nodes i).kind=21)(hl:(nd (fnD l f).nodes i).kids.length=0):OneOk F (fnD l f).nodes i:=by
 intro X w h B;have hW:=kids_zero T hi hl;have HU:=hide U;have H:=hide h;have HB:=hide B;have HW:=hide hW;have hn:=node_any U X i w h hi;clear h B U hW T;generalize nd (fnD l f).nodes i=n at *;generalize fnD l f=fn at *;have t0:=HB.out.t0;have t1:X.top<=2000000:=by have:=HB.out.t1;omega
 go_enter Tryz.func89,Tryz.ntmps89;go_wp2_with fail
 refine hn.mono ?_;rintro e w1 ⟨a1,c1,a2,c2,rfl,r1,r2,r3,b1⟩;have C1:=H.out.below b1;have c11:=C1.c11;have hcl:=C1.cbl;have r1':=r1.keep b1 (fun b hb=>(HU.out.far H.out b hb).1);have r2':=r2.keep b1 (fun b hb=>(HU.out.far H.out b hb).1);have N1:=hide (NBox.new (p1:=c1) (p2:=c2) hk rfl hl HU.out C1 r1' r2');have F1:Hid (Fr X.O X.O w w1):=.of_below b1;have HC1:=hide C1;unfold nodeV;rw[hl];rw[hl]at r3;clear C1 hn r1 r2 b1 r1' r2';go_wp2_with fail
 refine(push_c F X _ (HC1.out.alloc _) t0 (by omega) HB.out.nk).mono ?_;rintro e w2 ⟨X2,rfl,C2,f2,s2⟩;have R2:=hide (And.intro C2 (And.intro ((F1.out.alloc _).trans f2) s2));clear N1 C2 f2 s2 c11 hcl;go_wp2_with fail
 refine(l1bool_any true _).mono ?_;rintro e w4 ⟨rfl,hb⟩;have HBL:=hide hb;clear hb;go_wp2_with fail
 refine(load_any F X2 _ ⟨1,1,0,ByteArray.empty,0⟩ _ (R2.out.1.below HBL.out) R2.out.2.2.nk (by have:=R2.out.2.2.n2;have:=HB.out.n1;have:=HW.out;omega)).mono ?_;rintro e w3 ⟨X3,rfl,C3,f3,s3⟩;rw[R2.out.2.2.home]at s3;have c11:=C3.c11;have z11:=C3.fz 11;have R9:=hide (And.intro C3 (And.intro ((R2.out.2.1.trans (.of_below HBL.out)).trans f3) (R2.out.2.2.trans s3)));go_wp2_with fail
 go_ret;exact CPost.fin R9.out.1 R9.out.2.1 R9.out.2.2 (by have:=HW.out;omega)
theorem one_22 {F:CF}{l:List FnD}{f:Nat}{S:Nat->Prop}(U:UOk F l f S)(T:TreeOk (fnD l f).nodes)(i:Nat)(hi:i<(fnD l f).nodes.length)(hk:(nd (fnD l f).nodes i).kind=22)(hl:(nd (fnD l f).nodes i).kids.length=0):OneOk F (fnD l f).nodes i:=by
 intro X w h B;have hW:=kids_zero T hi hl;have HU:=hide U;have H:=hide h;have HB:=hide B;have HW:=hide hW;have hn:=node_any U X i w h hi;clear h B U hW T;generalize nd (fnD l f).nodes i=n at *;generalize fnD l f=fn at *;have t0:=HB.out.t0;have t1:X.top<=2000000:=by have:=HB.out.t1;omega
 go_enter Tryz.func89,Tryz.ntmps89;go_wp2_with fail
 refine hn.mono ?_;rintro e w1 ⟨a1,c1,a2,c2,rfl,r1,r2,r3,b1⟩;have C1:=H.out.below b1;have c11:=C1.c11;have hcl:=C1.cbl;have r1':=r1.keep b1 (fun b hb=>(HU.out.far H.out b hb).1);have r2':=r2.keep b1 (fun b hb=>(HU.out.far H.out b hb).1);have N1:=hide (NBox.new (p1:=c1) (p2:=c2) hk rfl hl HU.out C1 r1' r2');have F1:Hid (Fr X.O X.O w w1):=.of_below b1;have HC1:=hide C1;unfold nodeV;rw[hl];rw[hl]at r3;clear C1 hn r1 r2 b1 r1' r2';go_wp2_with fail
 refine(push_c F X _ (HC1.out.alloc _) t0 (by omega) HB.out.nk).mono ?_;rintro e w2 ⟨X2,rfl,C2,f2,s2⟩;have R2:=hide (And.intro C2 (And.intro ((F1.out.alloc _).trans f2) s2));clear N1 C2 f2 s2 c11 hcl;go_wp2_with fail
 refine(l1bool_any false _).mono ?_;rintro e w4 ⟨rfl,hb⟩;have HBL:=hide hb;clear hb;go_wp2_with fail
 refine(load_any F X2 _ ⟨1,0,0,ByteArray.empty,0⟩ _ (R2.out.1.below HBL.out) R2.out.2.2.nk (by have:=R2.out.2.2.n2;have:=HB.out.n1;have:=HW.out;omega)).mono ?_;rintro e w3 ⟨X3,rfl,C3,f3,s3⟩;rw[R2.out.2.2.home]at s3;have c11:=C3.c11;have z11:=C3.fz 11;have R9:=hide (And.intro C3 (And.intro ((R2.out.2.1.trans (.of_below HBL.out)).trans f3) (R2.out.2.2.trans s3)));go_wp2_with fail
 go_ret;exact CPost.fin R9.out.1 R9.out.2.1 R9.out.2.2 (by have:=HW.out;omega)
theorem one_23 {F:CF}{l:List FnD}{f:Nat}{S:Nat->Prop}(U:UOk F l f S)(T:TreeOk (fnD l f).nodes)(i:Nat)(hi:i<(fnD l f).nodes.length)(hk:(nd (fnD l f).nodes i).kind=23)(hl:(nd (fnD l f).nodes i).kids.length=0):OneOk F (fnD l f).nodes i:=by
 intro X w h B;have hW:=kids_zero T hi hl;have HU:=hide U;have H:=hide h;have HB:=hide B;have HW:=hide hW;have hn:=node_any U X i w h hi;clear h B U hW T;generalize nd (fnD l f).nodes i=n at *;generalize fnD l f=fn at *;have t0:=HB.out.t0;have t1:X.top<=2000000:=by have:=HB.out.t1;omega
 go_enter Tryz.func89,Tryz.ntmps89;go_wp2_with fail
 refine hn.mono ?_;rintro e w1 ⟨a1,c1,a2,c2,rfl,r1,r2,r3,b1⟩;have C1:=H.out.below b1;have c11:=C1.c11;have hcl:=C1.cbl;have r1':=r1.keep b1 (fun b hb=>(HU.out.far H.out b hb).1);have r2':=r2.keep b1 (fun b hb=>(HU.out.far H.out b hb).1);have N1:=hide (NBox.new (p1:=c1) (p2:=c2) hk rfl hl HU.out C1 r1' r2');have F1:Hid (Fr X.O X.O w w1):=.of_below b1;have HC1:=hide C1;unfold nodeV;rw[hl];rw[hl]at r3;clear C1 hn r1 r2 b1 r1' r2';have N0:=N1.out.below HU.out (HC1.out.alloc _) (Below.refl _ _).drew;have HN0:=hide N0;clear N0;go_wp2_with fail
 go_region_with (first
  | (go_at_call 29;refine(push_c F X _ (by first | exact(HC1.out.alloc _).drew | exact((HC1.out.alloc _).drew.below hb)) t0 (by omega) HB.out.nk).mono ?_;rintro e w2 ⟨X2,rfl,C2,f2,s2⟩;try have n3:=(NBox.step HN0.out HU.out (HC1.out.alloc _).drew f2).c3)
  | (go_at_call 115;refine(l1int_any _ _).mono ?_;rintro e w4 ⟨rfl,hb⟩)
  | (go_at_call 110;refine(load_any F X2 _ ⟨2,n.num,0,ByteArray.empty,0⟩ _ (by first | exact C2 | exact C2.below hb) s2.nk (by have:=s2.n2;have:=HB.out.n1;have:=HW.out;omega)).mono ?_;rintro e w3 ⟨X3,rfl,C3,f3,s3⟩))
 all_goals
  rw[s2.home]at s3;have f4:Hid (Fr X.O X3.O w w3):=by
   show Fr _ _ _ _
   first
    | exact(((F1.out.alloc _).drew.trans f2).trans (.of_below hb)).trans f3
    | exact(((F1.out.alloc _).drew.trans (.of_below hb)).trans f2).trans f3
  have s4:=hide (s2.trans s3);clear s2 s3 f2 f3;have c11:=C3.c11;have z11:=C3.fz 11;have R9:=hide (And.intro C3 (And.intro (f4.out) (s4.out)));go_wp2_with fail
  go_ret;exact CPost.fin R9.out.1 R9.out.2.1 R9.out.2.2 (by have:=HW.out;omega)
theorem one_24 {F:CF}{l:List FnD}{f:Nat}{S:Nat->Prop}(U:UOk F l f S)(T:TreeOk (fnD l f).nodes)(i:Nat)(hi:i<(fnD l f).nodes.length)(hk:(nd (fnD l f).nodes i).kind=24)(hl:(nd (fnD l f).nodes i).kids.length=0):OneOk F (fnD l f).nodes i:=by
 intro X w h B;have hW:=kids_zero T hi hl;have HU:=hide U;have H:=hide h;have HB:=hide B;have HW:=hide hW;have hn:=node_any U X i w h hi;clear h B U hW T;generalize nd (fnD l f).nodes i=n at *;generalize fnD l f=fn at *;have t0:=HB.out.t0;have t1:X.top<=2000000:=by have:=HB.out.t1;omega
 go_enter Tryz.func89,Tryz.ntmps89;go_wp2_with fail
 refine hn.mono ?_;rintro e w1 ⟨a1,c1,a2,c2,rfl,r1,r2,r3,b1⟩;have C1:=H.out.below b1;have c11:=C1.c11;have hcl:=C1.cbl;have r1':=r1.keep b1 (fun b hb=>(HU.out.far H.out b hb).1);have r2':=r2.keep b1 (fun b hb=>(HU.out.far H.out b hb).1);have N1:=hide (NBox.new (p1:=c1) (p2:=c2) hk rfl hl HU.out C1 r1' r2');have F1:Hid (Fr X.O X.O w w1):=.of_below b1;have HC1:=hide C1;unfold nodeV;rw[hl];rw[hl]at r3;clear C1 hn r1 r2 b1 r1' r2';have N0:=N1.out.below HU.out (HC1.out.alloc _) (Below.refl _ _).drew;have HN0:=hide N0;clear N0;go_wp2_with fail
 go_region_with (first
  | (go_at_call 29;refine(push_c F X _ (by first | exact(HC1.out.alloc _).drew | exact((HC1.out.alloc _).drew.below hb)) t0 (by omega) HB.out.nk).mono ?_;rintro e w2 ⟨X2,rfl,C2,f2,s2⟩;try have n3:=(NBox.step HN0.out HU.out (HC1.out.alloc _).drew f2).c4)
  | (go_at_call 116;refine(l1flt_any _ _).mono ?_;rintro e w4 ⟨rfl,hb⟩)
  | (go_at_call 110;refine(load_any F X2 _ ⟨3,0,n.flt,ByteArray.empty,0⟩ _ (by first | exact C2 | exact C2.below hb) s2.nk (by have:=s2.n2;have:=HB.out.n1;have:=HW.out;omega)).mono ?_;rintro e w3 ⟨X3,rfl,C3,f3,s3⟩))
 all_goals
  rw[s2.home]at s3;have f4:Hid (Fr X.O X3.O w w3):=by
   show Fr _ _ _ _
   first
    | exact(((F1.out.alloc _).drew.trans f2).trans (.of_below hb)).trans f3
    | exact(((F1.out.alloc _).drew.trans (.of_below hb)).trans f2).trans f3
  have s4:=hide (s2.trans s3);clear s2 s3 f2 f3;have c11:=C3.c11;have z11:=C3.fz 11;have R9:=hide (And.intro C3 (And.intro (f4.out) (s4.out)));go_wp2_with fail
  go_ret;exact CPost.fin R9.out.1 R9.out.2.1 R9.out.2.2 (by have:=HW.out;omega)
theorem one_25 {F:CF}{l:List FnD}{f:Nat}{S:Nat->Prop}(U:UOk F l f S)(T:TreeOk (fnD l f).nodes)(i:Nat)(hi:i<(fnD l f).nodes.length)(hk:(nd (fnD l f).nodes i).kind=25)(hl:(nd (fnD l f).nodes i).kids.length=0):OneOk F (fnD l f).nodes i:=by
 intro X w h B;have hW:=kids_zero T hi hl;have HU:=hide U;have H:=hide h;have HB:=hide B;have HW:=hide hW;have hn:=node_any U X i w h hi;clear h B U hW T;generalize nd (fnD l f).nodes i=n at *;generalize fnD l f=fn at *;have t0:=HB.out.t0;have t1:X.top<=2000000:=by have:=HB.out.t1;omega
 go_enter Tryz.func89,Tryz.ntmps89;go_wp2_with fail
 refine hn.mono ?_;rintro e w1 ⟨a1,c1,a2,c2,rfl,r1,r2,r3,b1⟩;have C1:=H.out.below b1;have c11:=C1.c11;have hcl:=C1.cbl;have r1':=r1.keep b1 (fun b hb=>(HU.out.far H.out b hb).1);have r2':=r2.keep b1 (fun b hb=>(HU.out.far H.out b hb).1);have N1:=hide (NBox.new (p1:=c1) (p2:=c2) hk rfl hl HU.out C1 r1' r2');have F1:Hid (Fr X.O X.O w w1):=.of_below b1;have HC1:=hide C1;unfold nodeV;rw[hl];rw[hl]at r3;clear C1 hn r1 r2 b1 r1' r2';have N0:=N1.out.below HU.out (HC1.out.alloc _) (Below.refl _ _).drew;have HN0:=hide N0;clear N0;go_wp2_with fail
 go_region_with (first
  | (go_at_call 29;refine(push_c F X _ (by first | exact(HC1.out.alloc _).drew | exact((HC1.out.alloc _).drew.below hb)) t0 (by omega) HB.out.nk).mono ?_;rintro e w2 ⟨X2,rfl,C2,f2,s2⟩;try have n3:=(NBox.step HN0.out HU.out (HC1.out.alloc _).drew f2).c5)
  | (go_at_call 117;refine(l1str_any _ _).mono ?_;rintro e w4 ⟨rfl,hb⟩)
  | (go_at_call 110;refine(load_any F X2 _ ⟨4,0,0,n.str,0⟩ _ (by first | exact C2 | exact C2.below hb) s2.nk (by have:=s2.n2;have:=HB.out.n1;have:=HW.out;omega)).mono ?_;rintro e w3 ⟨X3,rfl,C3,f3,s3⟩))
 all_goals
  rw[s2.home]at s3;have f4:Hid (Fr X.O X3.O w w3):=by
   show Fr _ _ _ _
   first
    | exact(((F1.out.alloc _).drew.trans f2).trans (.of_below hb)).trans f3
    | exact(((F1.out.alloc _).drew.trans (.of_below hb)).trans f2).trans f3
  have s4:=hide (s2.trans s3);clear s2 s3 f2 f3;have c11:=C3.c11;have z11:=C3.fz 11;have R9:=hide (And.intro C3 (And.intro (f4.out) (s4.out)));go_wp2_with fail
  go_ret;exact CPost.fin R9.out.1 R9.out.2.1 R9.out.2.2 (by have:=HW.out;omega)
end Go.Proofs.YtomcjennjcpdnaaGreatDoor

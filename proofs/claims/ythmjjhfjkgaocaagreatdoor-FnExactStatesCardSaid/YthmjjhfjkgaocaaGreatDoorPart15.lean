import Derived.Test.YthmjjhfjkgaocaaGreatDoorPart14
set_option linter.unusedSimpArgs false
set_option linter.unusedVariables false
set_option maxHeartbeats 4000000
set_option maxRecDepth 100000
namespace Go.Proofs.YthmjjhfjkgaocaaGreatDoor
open Go.RowKit
def sCon (kind:Int)(bn bf bs:Bool)(n:ValD):Bool:=
 (if kind=1 then sIn n.num 0 1 else if kind=2 then true else if kind=8 then sIn n.num 0 14 else bn)&&(if kind=3 then fltNum n.flt else bf)&&(if kind=4 then decide ((n.str.size:Int)≤4000)else bs)&&n.ref==0
theorem sIn01 (x:Int):sIn x 0 1=(x==0||x==1):=by
 unfold sIn
 by_cases h0:x=0
 ·subst h0;rfl
 by_cases h1:x=1
 ·subst h1;rfl
 rw[show(x==0)=false from beq_eq_false_iff_ne.2 h0,show(x==1)=false from beq_eq_false_iff_ne.2 h1]
 simp only[Bool.or_self,Bool.and_eq_false_iff,decide_eq_false_iff_not]
 omega
theorem sIn14 (x:Int):sIn x 0 14=(decide (0≤x)&&decide (x<15)):=by
 unfold sIn
 congr 1
 exact decide_eq_decide.2 (by omega)
theorem sConst_eq (n:ValD)(hk:n.kind=0∨n.kind=1∨n.kind=2∨n.kind=3∨n.kind=4∨n.kind=8):sConst n=sCon n.kind (n.num==0) (fltZero n.flt && !sgnBit n.flt) (strNone n.str) n:=by
 obtain⟨kind,num,flt,str,ref⟩:=n
 have hp:=pos_sign flt
 simp only at hk
 unfold sConst sCon sValueOk zeroV
 simp only
 rw[sIn01,sIn14]
 cases hz:fltZero flt
 ·rcases hk with rfl | rfl | rfl | rfl | rfl | rfl<;>simp
  all_goals (try (cases num==0<;>cases strNone str<;>cases ref==0<;>simp))
 ·rw[hp hz]
  rcases hk with rfl | rfl | rfl | rfl | rfl | rfl<;>simp<;>grind
theorem sConst_none (n:ValD)(h0:n.kind≠0)(h1:n.kind≠1)(h2:n.kind≠2)(h3:n.kind≠3)(h4:n.kind≠4)(h8:n.kind≠8):sConst n=false:=by
 unfold sConst sValueOk
 by_cases h5:n.kind=5
 ·simp[h5]
 by_cases h6:n.kind=6
 ·simp[h6]
 by_cases h7:n.kind=7
 ·simp[h7]
 simp[h0,h1,h2,h3,h4,h5,h6,h7,h8]
theorem constFits_0 (num:Int)(flt:Nat)(str:ByteArray)(ref:Int)(w:World)(hs:str.size≤9223372036854775807) :
  Calls Tryz.prog 107 #[.agg #[.int .i64 0,.int .i64 num,.float .f64 flt,.string str,.int .i64 ref]] w fun e w'=>e=.returned (.bool (sConst ⟨0,num,flt,str,ref⟩))∧Below w.heap.size w w':=by
 have hbA:∀ o,Below w.heap.size w (w.alloc o):=fun o=>(Below.refl _ _).alloc (Nat.le_refl _) o
 have E:Hid (sConst ⟨0,num,flt,str,ref⟩=sCon 0 (num==0) (fltZero flt && !sgnBit flt) (strNone str) ⟨0,num,flt,str,ref⟩):=sConst_eq ⟨0,num,flt,str,ref⟩ (by simp)
 generalize sConst ⟨0,num,flt,str,ref⟩=res at *
 have Z:Hid (∀ b,fltZero flt=b→(FloatKind.f64.format.order flt 0==some Ordering.eq)=b):=fun _ h=>h
 simp only[sCon]at E
 cases fz:fltZero flt
 ·have fzb:=Z.out _ fz
  rw[fz]at E
  clear Z fz
  go_enter Tryz.func107,Tryz.ntmps107
  go_wp2_with fail
  go_quiet (fail)
  go_wp2_with fail
  all_goals go_ret
  all_goals exact⟨ret_bool (by rw[E.out];first | (simp_all[strNone];done) | (simp_all[strNone];intros;omega)),(hbA _).trans (below_drewN _ _ _)⟩
 cases sg:sgnBit flt
 ·have fzb:=Z.out _ fz
  rw[fz,sg]at E
  have SG:=hide (signbit_any flt)
  rw[sg]at SG
  clear Z fz sg
  go_enter Tryz.func107,Tryz.ntmps107
  go_wp2_with fail
  go_quiet (first | (go_at_call 128;refine Calls.quiet_of_same (unhide SG _)))
  go_wp2_with fail
  all_goals go_ret
  all_goals exact⟨ret_bool (by rw[E.out];first | (simp_all[strNone];done) | (simp_all[strNone];intros;omega)),(hbA _).trans (below_drewN _ _ _)⟩
 ·have fzb:=Z.out _ fz
  rw[fz,sg]at E
  have SG:=hide (signbit_any flt)
  rw[sg]at SG
  clear Z fz sg
  go_enter Tryz.func107,Tryz.ntmps107
  go_wp2_with fail
  go_quiet (first | (go_at_call 128;refine Calls.quiet_of_same (unhide SG _)))
  go_wp2_with fail
  all_goals go_ret
  all_goals exact⟨ret_bool (by rw[E.out];first | (simp_all[strNone];done) | (simp_all[strNone];intros;omega)),(hbA _).trans (below_drewN _ _ _)⟩
theorem constFits_1 (num:Int)(flt:Nat)(str:ByteArray)(ref:Int)(w:World)(hs:str.size≤9223372036854775807) :
  Calls Tryz.prog 107 #[.agg #[.int .i64 1,.int .i64 num,.float .f64 flt,.string str,.int .i64 ref]] w fun e w'=>e=.returned (.bool (sConst ⟨1,num,flt,str,ref⟩))∧Below w.heap.size w w':=by
 have hbA:∀ o,Below w.heap.size w (w.alloc o):=fun o=>(Below.refl _ _).alloc (Nat.le_refl _) o
 have E:Hid (sConst ⟨1,num,flt,str,ref⟩=sCon 1 (num==0) (fltZero flt && !sgnBit flt) (strNone str) ⟨1,num,flt,str,ref⟩):=sConst_eq ⟨1,num,flt,str,ref⟩ (by simp)
 generalize sConst ⟨1,num,flt,str,ref⟩=res at *
 have Z:Hid (∀ b,fltZero flt=b→(FloatKind.f64.format.order flt 0==some Ordering.eq)=b):=fun _ h=>h
 simp only[sCon]at E
 cases fz:fltZero flt
 ·have fzb:=Z.out _ fz
  rw[fz]at E
  clear Z fz
  go_enter Tryz.func107,Tryz.ntmps107
  go_wp2_with fail
  go_quiet (fail)
  go_wp2_with fail
  all_goals (refine(within64_any _ _ _ _).mono ?_;rintro e w' ⟨rfl,rfl⟩)
  all_goals go_wp2_with fail
  all_goals go_ret
  all_goals exact⟨ret_bool (by rw[E.out];first | (simp_all[strNone];done) | (simp_all[strNone];intros;omega)),(hbA _).trans (below_drewN _ _ _)⟩
 cases sg:sgnBit flt
 ·have fzb:=Z.out _ fz
  rw[fz,sg]at E
  have SG:=hide (signbit_any flt)
  rw[sg]at SG
  clear Z fz sg
  go_enter Tryz.func107,Tryz.ntmps107
  go_wp2_with fail
  go_quiet (first | (go_at_call 128;refine Calls.quiet_of_same (unhide SG _)))
  go_wp2_with fail
  all_goals (refine(within64_any _ _ _ _).mono ?_;rintro e w' ⟨rfl,rfl⟩)
  all_goals go_wp2_with fail
  all_goals go_ret
  all_goals exact⟨ret_bool (by rw[E.out];first | (simp_all[strNone];done) | (simp_all[strNone];intros;omega)),(hbA _).trans (below_drewN _ _ _)⟩
 ·have fzb:=Z.out _ fz
  rw[fz,sg]at E
  have SG:=hide (signbit_any flt)
  rw[sg]at SG
  clear Z fz sg
  go_enter Tryz.func107,Tryz.ntmps107
  go_wp2_with fail
  go_quiet (first | (go_at_call 128;refine Calls.quiet_of_same (unhide SG _)))
  go_wp2_with fail
  all_goals (refine(within64_any _ _ _ _).mono ?_;rintro e w' ⟨rfl,rfl⟩)
  all_goals go_wp2_with fail
  all_goals go_ret
  all_goals exact⟨ret_bool (by rw[E.out];first | (simp_all[strNone];done) | (simp_all[strNone];intros;omega)),(hbA _).trans (below_drewN _ _ _)⟩
theorem constFits_2 (num:Int)(flt:Nat)(str:ByteArray)(ref:Int)(w:World)(hs:str.size≤9223372036854775807) :
  Calls Tryz.prog 107 #[.agg #[.int .i64 2,.int .i64 num,.float .f64 flt,.string str,.int .i64 ref]] w fun e w'=>e=.returned (.bool (sConst ⟨2,num,flt,str,ref⟩))∧Below w.heap.size w w':=by
 have hbA:∀ o,Below w.heap.size w (w.alloc o):=fun o=>(Below.refl _ _).alloc (Nat.le_refl _) o
 have E:Hid (sConst ⟨2,num,flt,str,ref⟩=sCon 2 (num==0) (fltZero flt && !sgnBit flt) (strNone str) ⟨2,num,flt,str,ref⟩):=sConst_eq ⟨2,num,flt,str,ref⟩ (by simp)
 generalize sConst ⟨2,num,flt,str,ref⟩=res at *
 have Z:Hid (∀ b,fltZero flt=b→(FloatKind.f64.format.order flt 0==some Ordering.eq)=b):=fun _ h=>h
 simp only[sCon]at E
 cases fz:fltZero flt
 ·have fzb:=Z.out _ fz
  rw[fz]at E
  clear Z fz
  go_enter Tryz.func107,Tryz.ntmps107
  go_wp2_with fail
  go_quiet (fail)
  go_wp2_with fail
  all_goals go_ret
  all_goals exact⟨ret_bool (by rw[E.out];first | (simp_all[strNone];done) | (simp_all[strNone];intros;omega)),(hbA _).trans (below_drewN _ _ _)⟩
 cases sg:sgnBit flt
 ·have fzb:=Z.out _ fz
  rw[fz,sg]at E
  have SG:=hide (signbit_any flt)
  rw[sg]at SG
  clear Z fz sg
  go_enter Tryz.func107,Tryz.ntmps107
  go_wp2_with fail
  go_quiet (first | (go_at_call 128;refine Calls.quiet_of_same (unhide SG _)))
  go_wp2_with fail
  all_goals go_ret
  all_goals exact⟨ret_bool (by rw[E.out];first | (simp_all[strNone];done) | (simp_all[strNone];intros;omega)),(hbA _).trans (below_drewN _ _ _)⟩
 ·have fzb:=Z.out _ fz
  rw[fz,sg]at E
  have SG:=hide (signbit_any flt)
  rw[sg]at SG
  clear Z fz sg
  go_enter Tryz.func107,Tryz.ntmps107
  go_wp2_with fail
  go_quiet (first | (go_at_call 128;refine Calls.quiet_of_same (unhide SG _)))
  go_wp2_with fail
  all_goals go_ret
  all_goals exact⟨ret_bool (by rw[E.out];first | (simp_all[strNone];done) | (simp_all[strNone];intros;omega)),(hbA _).trans (below_drewN _ _ _)⟩
theorem constFits_3 (num:Int)(flt:Nat)(str:ByteArray)(ref:Int)(w:World)(hs:str.size≤9223372036854775807) :
  Calls Tryz.prog 107 #[.agg #[.int .i64 3,.int .i64 num,.float .f64 flt,.string str,.int .i64 ref]] w fun e w'=>e=.returned (.bool (sConst ⟨3,num,flt,str,ref⟩))∧Below w.heap.size w w':=by
 have hbA:∀ o,Below w.heap.size w (w.alloc o):=fun o=>(Below.refl _ _).alloc (Nat.le_refl _) o
 have E:Hid (sConst ⟨3,num,flt,str,ref⟩=sCon 3 (num==0) (fltZero flt && !sgnBit flt) (strNone str) ⟨3,num,flt,str,ref⟩):=sConst_eq ⟨3,num,flt,str,ref⟩ (by simp)
 generalize sConst ⟨3,num,flt,str,ref⟩=res at *
 have Z:Hid (∀ b,fltZero flt=b→(FloatKind.f64.format.order flt 0==some Ordering.eq)=b):=fun _ h=>h
 simp only[sCon]at E
 cases fz:fltZero flt
 ·have fzb:=Z.out _ fz
  rw[fz]at E
  clear Z fz
  go_enter Tryz.func107,Tryz.ntmps107
  go_wp2_with fail
  go_quiet (fail)
  go_wp2_with fail
  all_goals (refine(isNaN_any _ _).mono ?_;rintro e w' ⟨rfl,rfl⟩)
  all_goals go_wp2_with fail
  all_goals go_ret
  all_goals exact⟨ret_bool (by rw[E.out];first | (simp_all[strNone];done) | (simp_all[strNone];intros;omega)),(hbA _).trans (below_drewN _ _ _)⟩
 cases sg:sgnBit flt
 ·have fzb:=Z.out _ fz
  rw[fz,sg]at E
  have SG:=hide (signbit_any flt)
  rw[sg]at SG
  clear Z fz sg
  go_enter Tryz.func107,Tryz.ntmps107
  go_wp2_with fail
  go_quiet (first | (go_at_call 128;refine Calls.quiet_of_same (unhide SG _)))
  go_wp2_with fail
  all_goals (refine(isNaN_any _ _).mono ?_;rintro e w' ⟨rfl,rfl⟩)
  all_goals go_wp2_with fail
  all_goals go_ret
  all_goals exact⟨ret_bool (by rw[E.out];first | (simp_all[strNone];done) | (simp_all[strNone];intros;omega)),(hbA _).trans (below_drewN _ _ _)⟩
 ·have fzb:=Z.out _ fz
  rw[fz,sg]at E
  have SG:=hide (signbit_any flt)
  rw[sg]at SG
  clear Z fz sg
  go_enter Tryz.func107,Tryz.ntmps107
  go_wp2_with fail
  go_quiet (first | (go_at_call 128;refine Calls.quiet_of_same (unhide SG _)))
  go_wp2_with fail
  all_goals (refine(isNaN_any _ _).mono ?_;rintro e w' ⟨rfl,rfl⟩)
  all_goals go_wp2_with fail
  all_goals go_ret
  all_goals exact⟨ret_bool (by rw[E.out];first | (simp_all[strNone];done) | (simp_all[strNone];intros;omega)),(hbA _).trans (below_drewN _ _ _)⟩
theorem constFits_4 (num:Int)(flt:Nat)(str:ByteArray)(ref:Int)(w:World)(hs:str.size≤9223372036854775807) :
  Calls Tryz.prog 107 #[.agg #[.int .i64 4,.int .i64 num,.float .f64 flt,.string str,.int .i64 ref]] w fun e w'=>e=.returned (.bool (sConst ⟨4,num,flt,str,ref⟩))∧Below w.heap.size w w':=by
 have hbA:∀ o,Below w.heap.size w (w.alloc o):=fun o=>(Below.refl _ _).alloc (Nat.le_refl _) o
 have E:Hid (sConst ⟨4,num,flt,str,ref⟩=sCon 4 (num==0) (fltZero flt && !sgnBit flt) (strNone str) ⟨4,num,flt,str,ref⟩):=sConst_eq ⟨4,num,flt,str,ref⟩ (by simp)
 generalize sConst ⟨4,num,flt,str,ref⟩=res at *
 have Z:Hid (∀ b,fltZero flt=b→(FloatKind.f64.format.order flt 0==some Ordering.eq)=b):=fun _ h=>h
 simp only[sCon]at E
 cases fz:fltZero flt
 ·have fzb:=Z.out _ fz
  rw[fz]at E
  clear Z fz
  go_enter Tryz.func107,Tryz.ntmps107
  go_wp2_with fail
  go_quiet (fail)
  go_wp2_with fail
  all_goals go_ret
  all_goals exact⟨ret_bool (by rw[E.out];first | (simp_all[strNone];done) | (simp_all[strNone];intros;omega)),(hbA _).trans (below_drewN _ _ _)⟩
 cases sg:sgnBit flt
 ·have fzb:=Z.out _ fz
  rw[fz,sg]at E
  have SG:=hide (signbit_any flt)
  rw[sg]at SG
  clear Z fz sg
  go_enter Tryz.func107,Tryz.ntmps107
  go_wp2_with fail
  go_quiet (first | (go_at_call 128;refine Calls.quiet_of_same (unhide SG _)))
  go_wp2_with fail
  all_goals go_ret
  all_goals exact⟨ret_bool (by rw[E.out];first | (simp_all[strNone];done) | (simp_all[strNone];intros;omega)),(hbA _).trans (below_drewN _ _ _)⟩
 ·have fzb:=Z.out _ fz
  rw[fz,sg]at E
  have SG:=hide (signbit_any flt)
  rw[sg]at SG
  clear Z fz sg
  go_enter Tryz.func107,Tryz.ntmps107
  go_wp2_with fail
  go_quiet (first | (go_at_call 128;refine Calls.quiet_of_same (unhide SG _)))
  go_wp2_with fail
  all_goals go_ret
  all_goals exact⟨ret_bool (by rw[E.out];first | (simp_all[strNone];done) | (simp_all[strNone];intros;omega)),(hbA _).trans (below_drewN _ _ _)⟩
theorem constFits_8 (num:Int)(flt:Nat)(str:ByteArray)(ref:Int)(w:World)(hs:str.size≤9223372036854775807) :
  Calls Tryz.prog 107 #[.agg #[.int .i64 8,.int .i64 num,.float .f64 flt,.string str,.int .i64 ref]] w fun e w'=>e=.returned (.bool (sConst ⟨8,num,flt,str,ref⟩))∧Below w.heap.size w w':=by
 have hbA:∀ o,Below w.heap.size w (w.alloc o):=fun o=>(Below.refl _ _).alloc (Nat.le_refl _) o
 have E:Hid (sConst ⟨8,num,flt,str,ref⟩=sCon 8 (num==0) (fltZero flt && !sgnBit flt) (strNone str) ⟨8,num,flt,str,ref⟩):=sConst_eq ⟨8,num,flt,str,ref⟩ (by simp)
 generalize sConst ⟨8,num,flt,str,ref⟩=res at *
 have Z:Hid (∀ b,fltZero flt=b→(FloatKind.f64.format.order flt 0==some Ordering.eq)=b):=fun _ h=>h
 simp only[sCon]at E
 cases fz:fltZero flt
 ·have fzb:=Z.out _ fz
  rw[fz]at E
  clear Z fz
  go_enter Tryz.func107,Tryz.ntmps107
  go_wp2_with fail
  go_quiet (fail)
  go_wp2_with fail
  all_goals (refine(within64_any _ _ _ _).mono ?_;rintro e w' ⟨rfl,rfl⟩)
  all_goals go_wp2_with fail
  all_goals go_ret
  all_goals exact⟨ret_bool (by rw[E.out];first | (simp_all[strNone];done) | (simp_all[strNone];intros;omega)),(hbA _).trans (below_drewN _ _ _)⟩
 cases sg:sgnBit flt
 ·have fzb:=Z.out _ fz
  rw[fz,sg]at E
  have SG:=hide (signbit_any flt)
  rw[sg]at SG
  clear Z fz sg
  go_enter Tryz.func107,Tryz.ntmps107
  go_wp2_with fail
  go_quiet (first | (go_at_call 128;refine Calls.quiet_of_same (unhide SG _)))
  go_wp2_with fail
  all_goals (refine(within64_any _ _ _ _).mono ?_;rintro e w' ⟨rfl,rfl⟩)
  all_goals go_wp2_with fail
  all_goals go_ret
  all_goals exact⟨ret_bool (by rw[E.out];first | (simp_all[strNone];done) | (simp_all[strNone];intros;omega)),(hbA _).trans (below_drewN _ _ _)⟩
 ·have fzb:=Z.out _ fz
  rw[fz,sg]at E
  have SG:=hide (signbit_any flt)
  rw[sg]at SG
  clear Z fz sg
  go_enter Tryz.func107,Tryz.ntmps107
  go_wp2_with fail
  go_quiet (first | (go_at_call 128;refine Calls.quiet_of_same (unhide SG _)))
  go_wp2_with fail
  all_goals (refine(within64_any _ _ _ _).mono ?_;rintro e w' ⟨rfl,rfl⟩)
  all_goals go_wp2_with fail
  all_goals go_ret
  all_goals exact⟨ret_bool (by rw[E.out];first | (simp_all[strNone];done) | (simp_all[strNone];intros;omega)),(hbA _).trans (below_drewN _ _ _)⟩
theorem constFits_none (kind num:Int)(flt:Nat)(str:ByteArray)(ref:Int)(w:World)(h0:(kind==0)=false)(h1:(kind==1)=false)(h2:(kind==2)=false)(h3:(kind==3)=false)(h4:(kind==4)=false)(h8:(kind==8)=false) :
  Calls Tryz.prog 107 #[.agg #[.int .i64 kind,.int .i64 num,.float .f64 flt,.string str,.int .i64 ref]] w fun e w'=>e=.returned (.bool false)∧Below w.heap.size w w':=by
 have hbA:∀ o,Below w.heap.size w (w.alloc o):=fun o=>(Below.refl _ _).alloc (Nat.le_refl _) o
 have Z:Hid (∀ b,fltZero flt=b→(FloatKind.f64.format.order flt 0==some Ordering.eq)=b):=fun _ h=>h
 cases fz:fltZero flt
 ·have fzb:=Z.out _ fz
  clear Z fz
  go_enter Tryz.func107,Tryz.ntmps107
  go_wp2_with fail
  go_quiet (fail)
  go_wp2_with fail
  go_ret
  exact⟨rfl,(hbA _).trans (below_drewN _ _ _)⟩
 cases sg:sgnBit flt
 ·have fzb:=Z.out _ fz
  have SG:=hide (signbit_any flt)
  rw[sg]at SG
  clear Z fz sg
  go_enter Tryz.func107,Tryz.ntmps107
  go_wp2_with fail
  go_quiet (first | (go_at_call 128;refine Calls.quiet_of_same (unhide SG _)))
  go_wp2_with fail
  go_ret
  exact⟨rfl,(hbA _).trans (below_drewN _ _ _)⟩
 ·have fzb:=Z.out _ fz
  have SG:=hide (signbit_any flt)
  rw[sg]at SG
  clear Z fz sg
  go_enter Tryz.func107,Tryz.ntmps107
  go_wp2_with fail
  go_quiet (first | (go_at_call 128;refine Calls.quiet_of_same (unhide SG _)))
  go_wp2_with fail
  go_ret
  exact⟨rfl,(hbA _).trans (below_drewN _ _ _)⟩
theorem constFits_any (n:ValD)(w:World)(hs:n.str.size≤9223372036854775807):Calls Tryz.prog 107 #[.agg #[.int .i64 n.kind,.int .i64 n.num,.float .f64 n.flt,.string n.str,.int .i64 n.ref]] w fun e w'=>e=.returned (.bool (sConst n))∧Below w.heap.size w w':=by
 obtain⟨kind,num,flt,str,ref⟩:=n
 simp only at *
 by_cases h0:kind=0
 ·subst h0;exact constFits_0 num flt str ref w hs
 by_cases h1:kind=1
 ·subst h1;exact constFits_1 num flt str ref w hs
 by_cases h2:kind=2
 ·subst h2;exact constFits_2 num flt str ref w hs
 by_cases h3:kind=3
 ·subst h3;exact constFits_3 num flt str ref w hs
 by_cases h4:kind=4
 ·subst h4;exact constFits_4 num flt str ref w hs
 by_cases h8:kind=8
 ·subst h8;exact constFits_8 num flt str ref w hs
 rw[sConst_none ⟨kind,num,flt,str,ref⟩ h0 h1 h2 h3 h4 h8]
 exact constFits_none kind num flt str ref w (beq_eq_false_iff_ne.2 h0) (beq_eq_false_iff_ne.2 h1) (beq_eq_false_iff_ne.2 h2) (beq_eq_false_iff_ne.2 h3) (beq_eq_false_iff_ne.2 h4) (beq_eq_false_iff_ne.2 h8)
end Go.Proofs.YthmjjhfjkgaocaaGreatDoor

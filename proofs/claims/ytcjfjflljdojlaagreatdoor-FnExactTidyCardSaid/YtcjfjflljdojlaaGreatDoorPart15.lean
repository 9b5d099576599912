import Derived.Test.YtcjfjflljdojlaaGreatDoorPart14
set_option linter.unusedSimpArgs false
set_option linter.unusedVariables false
set_option maxHeartbeats 4000000
set_option maxRecDepth 100000
namespace Go.Proofs.YtcjfjflljdojlaaGreatDoor
open Go.RowKit
def pB (kind:Int)(bn bf bs:Bool)(n:cS):Bool:=
 (if kind=1 then dw n.num 0 1 else if kind=2 then true else if kind=8 then dw n.num 0 14 else bn)&&(if kind=3 then ue n.flt else bf)&&(if kind=4 then decide ((n.str.size:Int)<=4000)else bs)&&n.ref==0
theorem Uv (x:Int):dw x 0 1=(x==0||x==1):=by
 unfold dw;by_cases h0:x=0
 ·aj h0;rfl
 by_cases h1:x=1
 ·aj h1;rfl
 rw[show(x==0)=false from beq_eq_false_iff_ne.2 h0,show(x==1)=false from beq_eq_false_iff_ne.2 h1];simp only[Bool.or_self,Bool.and_eq_false_iff,decide_eq_false_iff_not];omega
theorem Us (x:Int):dw x 0 14=(decide (0<=x)&&decide (x<15)):=by
 unfold dw
 congr 1
 exact decide_eq_decide.2 (by omega)
theorem jS (n:cS)(hk:n.kind=0\/n.kind=1\/n.kind=2\/n.kind=3\/n.kind=4\/n.kind=8):dv n=pB n.kind (n.num==0) (cJ n.flt && !fC n.flt) (aZ n.str) n:=by
 obtain⟨kind,num,flt,str,ref⟩:=n;have hp:=Jm flt;simp only at hk;unfold dv pB aJ eJ;simp only;rw[Uv,Us];cases hz:cJ flt
 ·rcases hk with rfl | rfl | rfl | rfl | rfl | rfl<;>simp
  all_goals (try (cases num==0<;>cases aZ str<;>cases ref==0<;>simp))
 ·rw[hp hz];rcases hk with rfl | rfl | rfl | rfl | rfl | rfl<;>simp<;>grind
theorem zD (n:cS)(h0:n.kind≠0)(h1:n.kind≠1)(h2:n.kind≠2)(h3:n.kind≠3)(h4:n.kind≠4)(h8:n.kind≠8):dv n=false:=by
 unfold dv aJ;by_cases h5:n.kind=5
 ·simp[h5]
 by_cases h6:n.kind=6
 ·simp[h6]
 by_cases h7:n.kind=7
 ·simp[h7]
 simp[h0,h1,h2,h3,h4,h5,h6,h7,h8]
theorem AT (num:Int)(flt:Nat)(str:ByteArray)(ref:Int)(w:World)(hs:str.size<=9223372036854775807) :
  c_ 113 #[.agg #[i_ 0,i_ num,.float .f64 flt,.string str,i_ ref]] w fun e w'=>e=.returned (.bool (dv ⟨0,num,flt,str,ref⟩))/\b_ w w':=by
 have dF:∀ o,b_ w (w.alloc o):=fun o=>r_.alloc n_ o;have E:Hid (dv ⟨0,num,flt,str,ref⟩=pB 0 (num==0) (cJ flt && !fC flt) (aZ str) ⟨0,num,flt,str,ref⟩):=jS ⟨0,num,flt,str,ref⟩ (by simp);generalize dv ⟨0,num,flt,str,ref⟩=res at *;have Z:Hid (∀ b,cJ flt=b->(FloatKind.f64.format.order flt 0==some Ordering.eq)=b):=fun _ h=>h;simp only[pB]at E;cases fz:cJ flt
 ·have vi:=Z.out _ fz;rw[fz]at E;clear Z fz;go_enter Tryz.func113,Tryz.ntmps113;go_wp2_with fail
  go_quiet (fail)
  go_wp2_with fail
  all_goals go_ret
  all_goals exact⟨al (by rw[E.out];first | (simp_all[aZ];done) | (simp_all[aZ];intros;omega)),(dF _).trans (ay _ _ _)⟩
 cases sg:fC flt
 ·have vi:=Z.out _ fz;rw[fz,sg]at E;have SG:=af (dy flt);rw[sg]at SG;clear Z fz sg;go_enter Tryz.func113,Tryz.ntmps113;go_wp2_with fail
  go_quiet (first | (go_at_call 136;refine Calls.quiet_of_same (aa SG _)))
  go_wp2_with fail
  all_goals go_ret
  all_goals exact⟨al (by rw[E.out];first | (simp_all[aZ];done) | (simp_all[aZ];intros;omega)),(dF _).trans (ay _ _ _)⟩
 ·have vi:=Z.out _ fz;rw[fz,sg]at E;have SG:=af (dy flt);rw[sg]at SG;clear Z fz sg;go_enter Tryz.func113,Tryz.ntmps113;go_wp2_with fail
  go_quiet (first | (go_at_call 136;refine Calls.quiet_of_same (aa SG _)))
  go_wp2_with fail
  all_goals go_ret
  all_goals exact⟨al (by rw[E.out];first | (simp_all[aZ];done) | (simp_all[aZ];intros;omega)),(dF _).trans (ay _ _ _)⟩
theorem Av (num:Int)(flt:Nat)(str:ByteArray)(ref:Int)(w:World)(hs:str.size<=9223372036854775807) :
  c_ 113 #[.agg #[i_ 1,i_ num,.float .f64 flt,.string str,i_ ref]] w fun e w'=>e=.returned (.bool (dv ⟨1,num,flt,str,ref⟩))/\b_ w w':=by
 have dF:∀ o,b_ w (w.alloc o):=fun o=>r_.alloc n_ o;have E:Hid (dv ⟨1,num,flt,str,ref⟩=pB 1 (num==0) (cJ flt && !fC flt) (aZ str) ⟨1,num,flt,str,ref⟩):=jS ⟨1,num,flt,str,ref⟩ (by simp);generalize dv ⟨1,num,flt,str,ref⟩=res at *;have Z:Hid (∀ b,cJ flt=b->(FloatKind.f64.format.order flt 0==some Ordering.eq)=b):=fun _ h=>h;simp only[pB]at E;cases fz:cJ flt
 ·have vi:=Z.out _ fz;rw[fz]at E;clear Z fz;go_enter Tryz.func113,Tryz.ntmps113;go_wp2_with fail
  go_quiet (fail)
  go_wp2_with fail
  all_goals (refine(gD _ _ _ _).mono ?_;rintro e w' ⟨rfl,rfl⟩)
  all_goals go_wp2_with fail
  all_goals go_ret
  all_goals exact⟨al (by rw[E.out];first | (simp_all[aZ];done) | (simp_all[aZ];intros;omega)),(dF _).trans (ay _ _ _)⟩
 cases sg:fC flt
 ·have vi:=Z.out _ fz;rw[fz,sg]at E;have SG:=af (dy flt);rw[sg]at SG;clear Z fz sg;go_enter Tryz.func113,Tryz.ntmps113;go_wp2_with fail
  go_quiet (first | (go_at_call 136;refine Calls.quiet_of_same (aa SG _)))
  go_wp2_with fail
  all_goals (refine(gD _ _ _ _).mono ?_;rintro e w' ⟨rfl,rfl⟩)
  all_goals go_wp2_with fail
  all_goals go_ret
  all_goals exact⟨al (by rw[E.out];first | (simp_all[aZ];done) | (simp_all[aZ];intros;omega)),(dF _).trans (ay _ _ _)⟩
 ·have vi:=Z.out _ fz;rw[fz,sg]at E;have SG:=af (dy flt);rw[sg]at SG;clear Z fz sg;go_enter Tryz.func113,Tryz.ntmps113;go_wp2_with fail
  go_quiet (first | (go_at_call 136;refine Calls.quiet_of_same (aa SG _)))
  go_wp2_with fail
  all_goals (refine(gD _ _ _ _).mono ?_;rintro e w' ⟨rfl,rfl⟩)
  all_goals go_wp2_with fail
  all_goals go_ret
  all_goals exact⟨al (by rw[E.out];first | (simp_all[aZ];done) | (simp_all[aZ];intros;omega)),(dF _).trans (ay _ _ _)⟩
theorem zq (num:Int)(flt:Nat)(str:ByteArray)(ref:Int)(w:World)(hs:str.size<=9223372036854775807) :
  c_ 113 #[.agg #[i_ 2,i_ num,.float .f64 flt,.string str,i_ ref]] w fun e w'=>e=.returned (.bool (dv ⟨2,num,flt,str,ref⟩))/\b_ w w':=by
 have dF:∀ o,b_ w (w.alloc o):=fun o=>r_.alloc n_ o;have E:Hid (dv ⟨2,num,flt,str,ref⟩=pB 2 (num==0) (cJ flt && !fC flt) (aZ str) ⟨2,num,flt,str,ref⟩):=jS ⟨2,num,flt,str,ref⟩ (by simp);generalize dv ⟨2,num,flt,str,ref⟩=res at *;have Z:Hid (∀ b,cJ flt=b->(FloatKind.f64.format.order flt 0==some Ordering.eq)=b):=fun _ h=>h;simp only[pB]at E;cases fz:cJ flt
 ·have vi:=Z.out _ fz;rw[fz]at E;clear Z fz;go_enter Tryz.func113,Tryz.ntmps113;go_wp2_with fail
  go_quiet (fail)
  go_wp2_with fail
  all_goals go_ret
  all_goals exact⟨al (by rw[E.out];first | (simp_all[aZ];done) | (simp_all[aZ];intros;omega)),(dF _).trans (ay _ _ _)⟩
 cases sg:fC flt
 ·have vi:=Z.out _ fz;rw[fz,sg]at E;have SG:=af (dy flt);rw[sg]at SG;clear Z fz sg;go_enter Tryz.func113,Tryz.ntmps113;go_wp2_with fail
  go_quiet (first | (go_at_call 136;refine Calls.quiet_of_same (aa SG _)))
  go_wp2_with fail
  all_goals go_ret
  all_goals exact⟨al (by rw[E.out];first | (simp_all[aZ];done) | (simp_all[aZ];intros;omega)),(dF _).trans (ay _ _ _)⟩
 ·have vi:=Z.out _ fz;rw[fz,sg]at E;have SG:=af (dy flt);rw[sg]at SG;clear Z fz sg;go_enter Tryz.func113,Tryz.ntmps113;go_wp2_with fail
  go_quiet (first | (go_at_call 136;refine Calls.quiet_of_same (aa SG _)))
  go_wp2_with fail
  all_goals go_ret
  all_goals exact⟨al (by rw[E.out];first | (simp_all[aZ];done) | (simp_all[aZ];intros;omega)),(dF _).trans (ay _ _ _)⟩
theorem zB (num:Int)(flt:Nat)(str:ByteArray)(ref:Int)(w:World)(hs:str.size<=9223372036854775807) :
  c_ 113 #[.agg #[i_ 3,i_ num,.float .f64 flt,.string str,i_ ref]] w fun e w'=>e=.returned (.bool (dv ⟨3,num,flt,str,ref⟩))/\b_ w w':=by
 have dF:∀ o,b_ w (w.alloc o):=fun o=>r_.alloc n_ o;have E:Hid (dv ⟨3,num,flt,str,ref⟩=pB 3 (num==0) (cJ flt && !fC flt) (aZ str) ⟨3,num,flt,str,ref⟩):=jS ⟨3,num,flt,str,ref⟩ (by simp);generalize dv ⟨3,num,flt,str,ref⟩=res at *;have Z:Hid (∀ b,cJ flt=b->(FloatKind.f64.format.order flt 0==some Ordering.eq)=b):=fun _ h=>h;simp only[pB]at E;cases fz:cJ flt
 ·have vi:=Z.out _ fz;rw[fz]at E;clear Z fz;go_enter Tryz.func113,Tryz.ntmps113;go_wp2_with fail
  go_quiet (fail)
  go_wp2_with fail
  all_goals (refine(rj _ _).mono ?_;rintro e w' ⟨rfl,rfl⟩)
  all_goals go_wp2_with fail
  all_goals go_ret
  all_goals exact⟨al (by rw[E.out];first | (simp_all[aZ];done) | (simp_all[aZ];intros;omega)),(dF _).trans (ay _ _ _)⟩
 cases sg:fC flt
 ·have vi:=Z.out _ fz;rw[fz,sg]at E;have SG:=af (dy flt);rw[sg]at SG;clear Z fz sg;go_enter Tryz.func113,Tryz.ntmps113;go_wp2_with fail
  go_quiet (first | (go_at_call 136;refine Calls.quiet_of_same (aa SG _)))
  go_wp2_with fail
  all_goals (refine(rj _ _).mono ?_;rintro e w' ⟨rfl,rfl⟩)
  all_goals go_wp2_with fail
  all_goals go_ret
  all_goals exact⟨al (by rw[E.out];first | (simp_all[aZ];done) | (simp_all[aZ];intros;omega)),(dF _).trans (ay _ _ _)⟩
 ·have vi:=Z.out _ fz;rw[fz,sg]at E;have SG:=af (dy flt);rw[sg]at SG;clear Z fz sg;go_enter Tryz.func113,Tryz.ntmps113;go_wp2_with fail
  go_quiet (first | (go_at_call 136;refine Calls.quiet_of_same (aa SG _)))
  go_wp2_with fail
  all_goals (refine(rj _ _).mono ?_;rintro e w' ⟨rfl,rfl⟩)
  all_goals go_wp2_with fail
  all_goals go_ret
  all_goals exact⟨al (by rw[E.out];first | (simp_all[aZ];done) | (simp_all[aZ];intros;omega)),(dF _).trans (ay _ _ _)⟩
theorem AK (num:Int)(flt:Nat)(str:ByteArray)(ref:Int)(w:World)(hs:str.size<=9223372036854775807) :
  c_ 113 #[.agg #[i_ 4,i_ num,.float .f64 flt,.string str,i_ ref]] w fun e w'=>e=.returned (.bool (dv ⟨4,num,flt,str,ref⟩))/\b_ w w':=by
 have dF:∀ o,b_ w (w.alloc o):=fun o=>r_.alloc n_ o;have E:Hid (dv ⟨4,num,flt,str,ref⟩=pB 4 (num==0) (cJ flt && !fC flt) (aZ str) ⟨4,num,flt,str,ref⟩):=jS ⟨4,num,flt,str,ref⟩ (by simp);generalize dv ⟨4,num,flt,str,ref⟩=res at *;have Z:Hid (∀ b,cJ flt=b->(FloatKind.f64.format.order flt 0==some Ordering.eq)=b):=fun _ h=>h;simp only[pB]at E;cases fz:cJ flt
 ·have vi:=Z.out _ fz;rw[fz]at E;clear Z fz;go_enter Tryz.func113,Tryz.ntmps113;go_wp2_with fail
  go_quiet (fail)
  go_wp2_with fail
  all_goals go_ret
  all_goals exact⟨al (by rw[E.out];first | (simp_all[aZ];done) | (simp_all[aZ];intros;omega)),(dF _).trans (ay _ _ _)⟩
 cases sg:fC flt
 ·have vi:=Z.out _ fz;rw[fz,sg]at E;have SG:=af (dy flt);rw[sg]at SG;clear Z fz sg;go_enter Tryz.func113,Tryz.ntmps113;go_wp2_with fail
  go_quiet (first | (go_at_call 136;refine Calls.quiet_of_same (aa SG _)))
  go_wp2_with fail
  all_goals go_ret
  all_goals exact⟨al (by rw[E.out];first | (simp_all[aZ];done) | (simp_all[aZ];intros;omega)),(dF _).trans (ay _ _ _)⟩
 ·have vi:=Z.out _ fz;rw[fz,sg]at E;have SG:=af (dy flt);rw[sg]at SG;clear Z fz sg;go_enter Tryz.func113,Tryz.ntmps113;go_wp2_with fail
  go_quiet (first | (go_at_call 136;refine Calls.quiet_of_same (aa SG _)))
  go_wp2_with fail
  all_goals go_ret
  all_goals exact⟨al (by rw[E.out];first | (simp_all[aZ];done) | (simp_all[aZ];intros;omega)),(dF _).trans (ay _ _ _)⟩
theorem zx (num:Int)(flt:Nat)(str:ByteArray)(ref:Int)(w:World)(hs:str.size<=9223372036854775807) :
  c_ 113 #[.agg #[i_ 8,i_ num,.float .f64 flt,.string str,i_ ref]] w fun e w'=>e=.returned (.bool (dv ⟨8,num,flt,str,ref⟩))/\b_ w w':=by
 have dF:∀ o,b_ w (w.alloc o):=fun o=>r_.alloc n_ o;have E:Hid (dv ⟨8,num,flt,str,ref⟩=pB 8 (num==0) (cJ flt && !fC flt) (aZ str) ⟨8,num,flt,str,ref⟩):=jS ⟨8,num,flt,str,ref⟩ (by simp);generalize dv ⟨8,num,flt,str,ref⟩=res at *;have Z:Hid (∀ b,cJ flt=b->(FloatKind.f64.format.order flt 0==some Ordering.eq)=b):=fun _ h=>h;simp only[pB]at E;cases fz:cJ flt
 ·have vi:=Z.out _ fz;rw[fz]at E;clear Z fz;go_enter Tryz.func113,Tryz.ntmps113;go_wp2_with fail
  go_quiet (fail)
  go_wp2_with fail
  all_goals (refine(gD _ _ _ _).mono ?_;rintro e w' ⟨rfl,rfl⟩)
  all_goals go_wp2_with fail
  all_goals go_ret
  all_goals exact⟨al (by rw[E.out];first | (simp_all[aZ];done) | (simp_all[aZ];intros;omega)),(dF _).trans (ay _ _ _)⟩
 cases sg:fC flt
 ·have vi:=Z.out _ fz;rw[fz,sg]at E;have SG:=af (dy flt);rw[sg]at SG;clear Z fz sg;go_enter Tryz.func113,Tryz.ntmps113;go_wp2_with fail
  go_quiet (first | (go_at_call 136;refine Calls.quiet_of_same (aa SG _)))
  go_wp2_with fail
  all_goals (refine(gD _ _ _ _).mono ?_;rintro e w' ⟨rfl,rfl⟩)
  all_goals go_wp2_with fail
  all_goals go_ret
  all_goals exact⟨al (by rw[E.out];first | (simp_all[aZ];done) | (simp_all[aZ];intros;omega)),(dF _).trans (ay _ _ _)⟩
 ·have vi:=Z.out _ fz;rw[fz,sg]at E;have SG:=af (dy flt);rw[sg]at SG;clear Z fz sg;go_enter Tryz.func113,Tryz.ntmps113;go_wp2_with fail
  go_quiet (first | (go_at_call 136;refine Calls.quiet_of_same (aa SG _)))
  go_wp2_with fail
  all_goals (refine(gD _ _ _ _).mono ?_;rintro e w' ⟨rfl,rfl⟩)
  all_goals go_wp2_with fail
  all_goals go_ret
  all_goals exact⟨al (by rw[E.out];first | (simp_all[aZ];done) | (simp_all[aZ];intros;omega)),(dF _).trans (ay _ _ _)⟩
theorem uS (kind num:Int)(flt:Nat)(str:ByteArray)(ref:Int)(w:World)(h0:(kind==0)=false)(h1:(kind==1)=false)(h2:(kind==2)=false)(h3:(kind==3)=false)(h4:(kind==4)=false)(h8:(kind==8)=false) :
  c_ 113 #[.agg #[i_ kind,i_ num,.float .f64 flt,.string str,i_ ref]] w fun e w'=>e=.returned (.bool false)/\b_ w w':=by
 have dF:∀ o,b_ w (w.alloc o):=fun o=>r_.alloc n_ o;have Z:Hid (∀ b,cJ flt=b->(FloatKind.f64.format.order flt 0==some Ordering.eq)=b):=fun _ h=>h;cases fz:cJ flt
 ·have vi:=Z.out _ fz;clear Z fz;go_enter Tryz.func113,Tryz.ntmps113;go_wp2_with fail
  go_quiet (fail)
  go_wp2_with fail
  go_ret;exact⟨rfl,(dF _).trans (ay _ _ _)⟩
 cases sg:fC flt
 ·have vi:=Z.out _ fz;have SG:=af (dy flt);rw[sg]at SG;clear Z fz sg;go_enter Tryz.func113,Tryz.ntmps113;go_wp2_with fail
  go_quiet (first | (go_at_call 136;refine Calls.quiet_of_same (aa SG _)))
  go_wp2_with fail
  go_ret;exact⟨rfl,(dF _).trans (ay _ _ _)⟩
 ·have vi:=Z.out _ fz;have SG:=af (dy flt);rw[sg]at SG;clear Z fz sg;go_enter Tryz.func113,Tryz.ntmps113;go_wp2_with fail
  go_quiet (first | (go_at_call 136;refine Calls.quiet_of_same (aa SG _)))
  go_wp2_with fail
  go_ret;exact⟨rfl,(dF _).trans (ay _ _ _)⟩
theorem vF (n:cS)(w:World)(hs:n.str.size<=9223372036854775807):c_ 113 #[.agg #[i_ n.kind,i_ n.num,.float .f64 n.flt,.string n.str,i_ n.ref]] w fun e w'=>e=.returned (.bool (dv n))/\b_ w w':=by
 obtain⟨kind,num,flt,str,ref⟩:=n;simp only at *;by_cases h0:kind=0
 ·aj h0;exact AT num flt str ref w hs
 by_cases h1:kind=1
 ·aj h1;exact Av num flt str ref w hs
 by_cases h2:kind=2
 ·aj h2;exact zq num flt str ref w hs
 by_cases h3:kind=3
 ·aj h3;exact zB num flt str ref w hs
 by_cases h4:kind=4
 ·aj h4;exact AK num flt str ref w hs
 by_cases h8:kind=8
 ·aj h8;exact zx num flt str ref w hs
 rw[zD ⟨kind,num,flt,str,ref⟩ h0 h1 h2 h3 h4 h8];exact uS kind num flt str ref w (beq_eq_false_iff_ne.2 h0) (beq_eq_false_iff_ne.2 h1) (beq_eq_false_iff_ne.2 h2) (beq_eq_false_iff_ne.2 h3) (beq_eq_false_iff_ne.2 h4) (beq_eq_false_iff_ne.2 h8)
end Go.Proofs.YtcjfjflljdojlaaGreatDoor

import Derived.Test.YtofcbekoaghikaaGreatDoorPart20
import Derived.BigQuiet
set_option linter.unusedSimpArgs false
set_option linter.unusedVariables false
set_option maxHeartbeats 8000000
namespace Go.Proofs.YtofcbekoaghikaaGreatDoor
open Go.RowKit
attribute [local go_sem] run_store_float
def mayFit (x:NodeD)(i:Nat)(k:Int):Bool:=
 if x.kind=1 then isStat k
 else if x.kind=3/\(i:Int)<x.num then isTarget k
 else if x.kind=4\/x.kind=14 then k==34
 else if x.kind=12 then k==1
 else if x.kind=5/\0<i then(k==1||(i==2&&k==5))
 else if(x.kind=6\/x.kind=7\/x.kind=8)/\(x.kids.length:Int)-1-i=0 then k==1
 else if x.kind=35/\x.op=1/\(x.kids.length:Int)-1-i=1 then k==23
 else if x.kind=35/\x.op=1/\(x.kids.length:Int)-1-i=0 then isMany k
 else if x.kind=38 then isMany k
 else isExpr k
theorem mayStand_any (x:NodeD)(ra ka:Option Addr)(rc kc i:Nat)(k:Int)(w:World)(hi:i<x.kids.length)(hkl:x.kids.length<=9223372036854775807)(hrl:x.refs.length<=9223372036854775807) :
  Calls Tryz.prog 87 #[.agg #[.int .i64 x.kind,.int .i64 x.line,.int .i64 x.op,.int .i64 x.num,.float .f64 x.flt,.string x.str,.slice ra x.refs.length rc,.slice ka x.kids.length kc],.int .i64 i,.int .i64 k] w fun e w'=>e=.returned (.bool (mayFit x i k))/\Below w.heap.size w w':=by
 have HBA:Hid (∀ o,Below w.heap.size w (w.alloc o)):=fun o=>(Below.refl _ _).alloc (Nat.le_refl _) o;obtain⟨kind,line,op,num,flt,str,refs,kids⟩:=x;simp only at *;have hil:(i:Int)<kids.length:=by omega
 have hb0:-9223372036854775808<=(kids.length:Int)-1-i:=by omega
 have hb1:(kids.length:Int)-1-i<=9223372036854775807:=by omega
 by_cases q:kind=1
 ·subst q;have E:Hid (mayFit (⟨1,line,op,num,flt,str,refs,kids⟩:NodeD) i k=(isStat k)):=by show _=_;rfl
  go_enter Tryz.func87,Tryz.ntmps87;go_wp2_with fail
  refine(isStatement_any _ _).mono ?_;rintro e w' ⟨rfl,rfl⟩;go_wp2_with fail
  go_ret;exact⟨ret_bool E.out.symm,unhide HBA _⟩
 by_cases q:kind=3
 ·subst q;by_cases q:(i:Int)<num
  ·have d:decide ((i:Int)<num)=true:=decide_eq_true q;have E0:Hid (mayFit (⟨3,line,op,num,flt,str,refs,kids⟩:NodeD) i k=isTarget k):=by show _=_;simp[mayFit,q]
   cases h1:k==26
   ·cases h2:k==27
    ·have E:Hid (mayFit (⟨3,line,op,num,flt,str,refs,kids⟩:NodeD) i k=(k==33)):=by show _=_;rw[E0.out,isTarget,h1,h2];rfl
     go_enter Tryz.func87,Tryz.ntmps87;go_wp2_with fail
     go_ret;exact⟨ret_bool E.out.symm,unhide HBA _⟩
    ·have E:Hid (mayFit (⟨3,line,op,num,flt,str,refs,kids⟩:NodeD) i k=true):=by show _=_;rw[E0.out,isTarget,h1,h2];rfl
     go_enter Tryz.func87,Tryz.ntmps87;go_wp2_with fail
     go_ret;exact⟨ret_bool E.out.symm,unhide HBA _⟩
   ·have E:Hid (mayFit (⟨3,line,op,num,flt,str,refs,kids⟩:NodeD) i k=true):=by show _=_;rw[E0.out,isTarget,h1];rfl
    go_enter Tryz.func87,Tryz.ntmps87;go_wp2_with fail
    go_ret;exact⟨ret_bool E.out.symm,unhide HBA _⟩
  ·have d:decide ((i:Int)<num)=false:=decide_eq_false q;have E:Hid (mayFit (⟨3,line,op,num,flt,str,refs,kids⟩:NodeD) i k=(isExpr k)):=by show _=_;simp[mayFit,q]
   go_enter Tryz.func87,Tryz.ntmps87;go_wp2_with fail
   refine(isExpression_any _ _).mono ?_;rintro e w' ⟨rfl,rfl⟩;go_wp2_with fail
   go_ret;exact⟨ret_bool E.out.symm,unhide HBA _⟩
 by_cases q:kind=4
 ·subst q;have E:Hid (mayFit (⟨4,line,op,num,flt,str,refs,kids⟩:NodeD) i k=(k==34)):=by show _=_;simp[mayFit]
  go_enter Tryz.func87,Tryz.ntmps87;go_wp2_with fail
  go_ret;exact⟨ret_bool E.out.symm,unhide HBA _⟩
 by_cases q:kind=14
 ·subst q;have E:Hid (mayFit (⟨14,line,op,num,flt,str,refs,kids⟩:NodeD) i k=(k==34)):=by show _=_;simp[mayFit]
  go_enter Tryz.func87,Tryz.ntmps87;go_wp2_with fail
  go_ret;exact⟨ret_bool E.out.symm,unhide HBA _⟩
 by_cases q:kind=12
 ·subst q;have E:Hid (mayFit (⟨12,line,op,num,flt,str,refs,kids⟩:NodeD) i k=(k==1)):=by show _=_;simp[mayFit]
  go_enter Tryz.func87,Tryz.ntmps87;go_wp2_with fail
  go_ret;exact⟨ret_bool E.out.symm,unhide HBA _⟩
 by_cases q:kind=5
 ·subst q;by_cases q:0<i
  ·have d:decide ((0:Int)<i)=true:=decide_eq_true (by omega);have d':decide (0<i)=true:=decide_eq_true q;have E0:Hid (mayFit (⟨5,line,op,num,flt,str,refs,kids⟩:NodeD) i k=(k==1||(i==2&&k==5))):=by show _=_;simp[mayFit,q]
   cases h1:k==1
   ·cases h2:i==2
    ·have h2':((i:Int)==2)=false:=by simp at h2 ⊢;omega
     have E:Hid (mayFit (⟨5,line,op,num,flt,str,refs,kids⟩:NodeD) i k=false):=by show _=_;rw[E0.out,h1,h2];rfl
     clear h2;go_enter Tryz.func87,Tryz.ntmps87;go_wp2_with fail
     go_ret;exact⟨ret_bool E.out.symm,unhide HBA _⟩
    ·have h2':((i:Int)==2)=true:=by simp at h2 ⊢;omega
     have E:Hid (mayFit (⟨5,line,op,num,flt,str,refs,kids⟩:NodeD) i k=(k==5)):=by show _=_;rw[E0.out,h1,h2];rfl
     clear h2;go_enter Tryz.func87,Tryz.ntmps87;go_wp2_with fail
     go_ret;exact⟨ret_bool E.out.symm,unhide HBA _⟩
   ·have E:Hid (mayFit (⟨5,line,op,num,flt,str,refs,kids⟩:NodeD) i k=true):=by show _=_;rw[E0.out,h1];rfl
    go_enter Tryz.func87,Tryz.ntmps87;go_wp2_with fail
    go_ret;exact⟨ret_bool E.out.symm,unhide HBA _⟩
  ·obtain rfl:i=0:=by omega
   have E:Hid (mayFit (⟨5,line,op,num,flt,str,refs,kids⟩:NodeD) 0 k=isExpr k):=by show _=_;simp[mayFit]
   go_enter Tryz.func87,Tryz.ntmps87;go_wp2_with fail
   refine(isExpression_any _ _).mono ?_;rintro e w' ⟨rfl,rfl⟩;go_wp2_with fail
   go_ret;exact⟨ret_bool E.out.symm,unhide HBA _⟩
 by_cases q:kind=6
 ·subst q;by_cases q:(kids.length:Int)-1-i=0
  ·have d:((kids.length:Int)-1-i==0)=true:=beq_iff_eq.2 q;have E:Hid (mayFit (⟨6,line,op,num,flt,str,refs,kids⟩:NodeD) i k=(k==1)):=by show _=_;simp[mayFit,q]
   clear q;go_enter Tryz.func87,Tryz.ntmps87;go_wp2_with fail
   go_ret;exact⟨ret_bool E.out.symm,unhide HBA _⟩
  ·have d:((kids.length:Int)-1-i==0)=false:=beq_eq_false_iff_ne.2 q;have E:Hid (mayFit (⟨6,line,op,num,flt,str,refs,kids⟩:NodeD) i k=(isExpr k)):=by show _=_;simp[mayFit,q]
   clear q;go_enter Tryz.func87,Tryz.ntmps87;go_wp2_with fail
   refine(isExpression_any _ _).mono ?_;rintro e w' ⟨rfl,rfl⟩;go_wp2_with fail
   go_ret;exact⟨ret_bool E.out.symm,unhide HBA _⟩
 by_cases q:kind=7
 ·subst q;by_cases q:(kids.length:Int)-1-i=0
  ·have d:((kids.length:Int)-1-i==0)=true:=beq_iff_eq.2 q;have E:Hid (mayFit (⟨7,line,op,num,flt,str,refs,kids⟩:NodeD) i k=(k==1)):=by show _=_;simp[mayFit,q]
   clear q;go_enter Tryz.func87,Tryz.ntmps87;go_wp2_with fail
   go_ret;exact⟨ret_bool E.out.symm,unhide HBA _⟩
  ·have d:((kids.length:Int)-1-i==0)=false:=beq_eq_false_iff_ne.2 q;have E:Hid (mayFit (⟨7,line,op,num,flt,str,refs,kids⟩:NodeD) i k=(isExpr k)):=by show _=_;simp[mayFit,q]
   clear q;go_enter Tryz.func87,Tryz.ntmps87;go_wp2_with fail
   refine(isExpression_any _ _).mono ?_;rintro e w' ⟨rfl,rfl⟩;go_wp2_with fail
   go_ret;exact⟨ret_bool E.out.symm,unhide HBA _⟩
 by_cases q:kind=8
 ·subst q;by_cases q:(kids.length:Int)-1-i=0
  ·have d:((kids.length:Int)-1-i==0)=true:=beq_iff_eq.2 q;have E:Hid (mayFit (⟨8,line,op,num,flt,str,refs,kids⟩:NodeD) i k=(k==1)):=by show _=_;simp[mayFit,q]
   clear q;go_enter Tryz.func87,Tryz.ntmps87;go_wp2_with fail
   go_ret;exact⟨ret_bool E.out.symm,unhide HBA _⟩
  ·have d:((kids.length:Int)-1-i==0)=false:=beq_eq_false_iff_ne.2 q;have E:Hid (mayFit (⟨8,line,op,num,flt,str,refs,kids⟩:NodeD) i k=(isExpr k)):=by show _=_;simp[mayFit,q]
   clear q;go_enter Tryz.func87,Tryz.ntmps87;go_wp2_with fail
   refine(isExpression_any _ _).mono ?_;rintro e w' ⟨rfl,rfl⟩;go_wp2_with fail
   go_ret;exact⟨ret_bool E.out.symm,unhide HBA _⟩
 by_cases q:kind=35
 ·subst q;by_cases q1:op=1
  ·subst q1;by_cases q:(kids.length:Int)-1-i=1
   ·have d:((kids.length:Int)-1-i==1)=true:=beq_iff_eq.2 q;have E:Hid (mayFit (⟨35,line,1,num,flt,str,refs,kids⟩:NodeD) i k=(k==23)):=by show _=_;simp[mayFit,q]
    clear q;go_enter Tryz.func87,Tryz.ntmps87;go_wp2_with fail
    go_ret;exact⟨ret_bool E.out.symm,unhide HBA _⟩
   ·have d:((kids.length:Int)-1-i==1)=false:=beq_eq_false_iff_ne.2 q;by_cases q2:(kids.length:Int)-1-i=0
    ·have d2:((kids.length:Int)-1-i==0)=true:=beq_iff_eq.2 q2;have E:Hid (mayFit (⟨35,line,1,num,flt,str,refs,kids⟩:NodeD) i k=isMany k):=by show _=_;simp[mayFit,q2]
     clear q q2;go_enter Tryz.func87,Tryz.ntmps87;go_wp2_with fail
     refine(isMany_any _ _).mono ?_;rintro e w' ⟨rfl,rfl⟩;go_wp2_with fail
     go_ret;exact⟨ret_bool E.out.symm,unhide HBA _⟩
    ·have d2:((kids.length:Int)-1-i==0)=false:=beq_eq_false_iff_ne.2 q2;have E:Hid (mayFit (⟨35,line,1,num,flt,str,refs,kids⟩:NodeD) i k=isExpr k):=by show _=_;simp[mayFit,q,q2]
     clear q q2;go_enter Tryz.func87,Tryz.ntmps87;go_wp2_with fail
     refine(isExpression_any _ _).mono ?_;rintro e w' ⟨rfl,rfl⟩;go_wp2_with fail
     go_ret;exact⟨ret_bool E.out.symm,unhide HBA _⟩
  ·have d:(op==1)=false:=beq_eq_false_iff_ne.2 q1;have E:Hid (mayFit (⟨35,line,op,num,flt,str,refs,kids⟩:NodeD) i k=(isExpr k)):=by show _=_;simp[mayFit,q1]
   go_enter Tryz.func87,Tryz.ntmps87;go_wp2_with fail
   refine(isExpression_any _ _).mono ?_;rintro e w' ⟨rfl,rfl⟩;go_wp2_with fail
   go_ret;exact⟨ret_bool E.out.symm,unhide HBA _⟩
 by_cases q:kind=38
 ·subst q;have E:Hid (mayFit (⟨38,line,op,num,flt,str,refs,kids⟩:NodeD) i k=(isMany k)):=by show _=_;simp[mayFit]
  go_enter Tryz.func87,Tryz.ntmps87;go_wp2_with fail
  refine(isMany_any _ _).mono ?_;rintro e w' ⟨rfl,rfl⟩;go_wp2_with fail
  go_ret;exact⟨ret_bool E.out.symm,unhide HBA _⟩
 have d1:(kind==1)=false:=beq_eq_false_iff_ne.2 (by assumption);have d3:(kind==3)=false:=beq_eq_false_iff_ne.2 (by assumption);have d4:(kind==4)=false:=beq_eq_false_iff_ne.2 (by assumption);have d14:(kind==14)=false:=beq_eq_false_iff_ne.2 (by assumption);have d12:(kind==12)=false:=beq_eq_false_iff_ne.2 (by assumption);have d5:(kind==5)=false:=beq_eq_false_iff_ne.2 (by assumption);have d6:(kind==6)=false:=beq_eq_false_iff_ne.2 (by assumption);have d7:(kind==7)=false:=beq_eq_false_iff_ne.2 (by assumption);have d8:(kind==8)=false:=beq_eq_false_iff_ne.2 (by assumption);have d35:(kind==35)=false:=beq_eq_false_iff_ne.2 (by assumption);have d38:(kind==38)=false:=beq_eq_false_iff_ne.2 (by assumption);have E:Hid (mayFit (⟨kind,line,op,num,flt,str,refs,kids⟩:NodeD) i k=isExpr k):=by
  show _=_;simp only[beq_eq_false_iff_ne]at d1 d3 d4 d14 d12 d5 d6 d7 d8 d35 d38;simp[mayFit,d1,d3,d4,d14,d12,d5,d6,d7,d8,d35,d38]
 go_enter Tryz.func87,Tryz.ntmps87;go_wp2_with fail
 refine(isExpression_any _ _).mono ?_;rintro e w' ⟨rfl,rfl⟩;go_wp2_with fail
 go_ret;exact⟨ret_bool E.out.symm,unhide HBA _⟩
attribute [local go_sem] run_store_float
theorem isNaN_any (x:Nat)(w:World):Calls Tryz.prog 104 #[.float .f64 x] w fun e w'=>e=.returned (.bool (!fltNum x))/\w'=w:=by
 unfold fltNum;go_enter Tryz.func104,Tryz.ntmps104
 go_wp2
 go_ret;exact⟨rfl,rfl⟩
def opFit (x:NodeD)(u:Nat):Bool:=if u=6 then inR x.op 19 22 else if u=7 then inR x.op 1 18 else if u=8 then(x.op==0||(x.op==1&&decide (0<x.kids.length)))else x.op==0
def numFit (x:NodeD)(u:Nat):Bool:=if u=1 then inR x.num 1 ((x.kids.length:Int)-1)else if u=2 then true else if u=5 then inR x.num 0 14 else x.num==0
def fltFit (x:NodeD)(u:Nat):Bool:=if u=3 then fltNum x.flt else fltZero x.flt
def strFit (x:NodeD)(u:Nat):Bool:=if u=4 then decide ((x.str.size:Int)<=4000)else strNone x.str
def fieldsFits (x:NodeD)(u:Nat):Bool:=opFit x u&&numFit x u&&fltFit x u&&strFit x u
theorem fieldsFit_0 (x:NodeD)(ra ka:Option Addr)(rc kc:Nat)(w:World)(hkl:x.kids.length<=1048576)(hrl:x.refs.length<=9223372036854775807)(hsl:x.str.size<=9223372036854775807) :
  Calls Tryz.prog 86 #[.agg #[.int .i64 x.kind,.int .i64 x.line,.int .i64 x.op,.int .i64 x.num,.float .f64 x.flt,.string x.str,.slice ra x.refs.length rc,.slice ka x.kids.length kc],.int .i64 0] w fun e w'=>e=.returned (.bool (fieldsFits x 0))/\Below w.heap.size w w':=by
 have HBA:Hid (∀ o q,Below w.heap.size w ((w.alloc o).drewN q)):=fun o q=>((Below.refl _ _).alloc (Nat.le_refl _) o).trans ⟨rfl,rfl,rfl,Nat.le_refl _,fun _ _=>rfl⟩;obtain⟨kind,line,op,num,flt,str,refs,kids⟩:=x;simp only at *;have E:Hid (fieldsFits (⟨kind,line,op,num,flt,str,refs,kids⟩:NodeD) 0=(opFit ⟨kind,line,op,num,flt,str,refs,kids⟩ 0&&numFit ⟨kind,line,op,num,flt,str,refs,kids⟩ 0&&fltFit ⟨kind,line,op,num,flt,str,refs,kids⟩ 0&&strFit ⟨kind,line,op,num,flt,str,refs,kids⟩ 0)):=rfl;go_enter Tryz.func86,Tryz.ntmps86;go_wp2_with fail
 go_quiet (fail)
 go_wp2_with fail
 all_goals (go_ret;refine⟨?_,unhide HBA _ _⟩;rw[E.out];simp[opFit,numFit,fltFit,strFit,fltZero,strNone, *])
theorem fieldsFit_1 (x:NodeD)(ra ka:Option Addr)(rc kc:Nat)(w:World)(hkl:x.kids.length<=1048576)(hrl:x.refs.length<=9223372036854775807)(hsl:x.str.size<=9223372036854775807) :
  Calls Tryz.prog 86 #[.agg #[.int .i64 x.kind,.int .i64 x.line,.int .i64 x.op,.int .i64 x.num,.float .f64 x.flt,.string x.str,.slice ra x.refs.length rc,.slice ka x.kids.length kc],.int .i64 1] w fun e w'=>e=.returned (.bool (fieldsFits x 1))/\Below w.heap.size w w':=by
 have HBA:Hid (∀ o q,Below w.heap.size w ((w.alloc o).drewN q)):=fun o q=>((Below.refl _ _).alloc (Nat.le_refl _) o).trans ⟨rfl,rfl,rfl,Nat.le_refl _,fun _ _=>rfl⟩;obtain⟨kind,line,op,num,flt,str,refs,kids⟩:=x;simp only at *;have E:Hid (fieldsFits (⟨kind,line,op,num,flt,str,refs,kids⟩:NodeD) 1=(opFit ⟨kind,line,op,num,flt,str,refs,kids⟩ 1&&numFit ⟨kind,line,op,num,flt,str,refs,kids⟩ 1&&fltFit ⟨kind,line,op,num,flt,str,refs,kids⟩ 1&&strFit ⟨kind,line,op,num,flt,str,refs,kids⟩ 1)):=rfl;go_enter Tryz.func86,Tryz.ntmps86;go_wp2_with fail
 go_quiet (fail)
 go_wp2_with (first | (go_at_call 103;refine(within64_any _ _ _ _).mono ?_;rintro e w' ⟨rfl,rfl⟩))
 all_goals (go_ret;refine⟨?_,unhide HBA _ _⟩;rw[E.out];simp[opFit,numFit,fltFit,strFit,fltZero,strNone, *])
theorem fieldsFit_2 (x:NodeD)(ra ka:Option Addr)(rc kc:Nat)(w:World)(hkl:x.kids.length<=1048576)(hrl:x.refs.length<=9223372036854775807)(hsl:x.str.size<=9223372036854775807) :
  Calls Tryz.prog 86 #[.agg #[.int .i64 x.kind,.int .i64 x.line,.int .i64 x.op,.int .i64 x.num,.float .f64 x.flt,.string x.str,.slice ra x.refs.length rc,.slice ka x.kids.length kc],.int .i64 2] w fun e w'=>e=.returned (.bool (fieldsFits x 2))/\Below w.heap.size w w':=by
 have HBA:Hid (∀ o q,Below w.heap.size w ((w.alloc o).drewN q)):=fun o q=>((Below.refl _ _).alloc (Nat.le_refl _) o).trans ⟨rfl,rfl,rfl,Nat.le_refl _,fun _ _=>rfl⟩;obtain⟨kind,line,op,num,flt,str,refs,kids⟩:=x;simp only at *;have E:Hid (fieldsFits (⟨kind,line,op,num,flt,str,refs,kids⟩:NodeD) 2=(opFit ⟨kind,line,op,num,flt,str,refs,kids⟩ 2&&numFit ⟨kind,line,op,num,flt,str,refs,kids⟩ 2&&fltFit ⟨kind,line,op,num,flt,str,refs,kids⟩ 2&&strFit ⟨kind,line,op,num,flt,str,refs,kids⟩ 2)):=rfl;go_enter Tryz.func86,Tryz.ntmps86;go_wp2_with fail
 go_quiet (fail)
 go_wp2_with fail
 all_goals (go_ret;refine⟨?_,unhide HBA _ _⟩;rw[E.out];simp[opFit,numFit,fltFit,strFit,fltZero,strNone, *])
theorem fieldsFit_3 (x:NodeD)(ra ka:Option Addr)(rc kc:Nat)(w:World)(hkl:x.kids.length<=1048576)(hrl:x.refs.length<=9223372036854775807)(hsl:x.str.size<=9223372036854775807) :
  Calls Tryz.prog 86 #[.agg #[.int .i64 x.kind,.int .i64 x.line,.int .i64 x.op,.int .i64 x.num,.float .f64 x.flt,.string x.str,.slice ra x.refs.length rc,.slice ka x.kids.length kc],.int .i64 3] w fun e w'=>e=.returned (.bool (fieldsFits x 3))/\Below w.heap.size w w':=by
 have HBA:Hid (∀ o q,Below w.heap.size w ((w.alloc o).drewN q)):=fun o q=>((Below.refl _ _).alloc (Nat.le_refl _) o).trans ⟨rfl,rfl,rfl,Nat.le_refl _,fun _ _=>rfl⟩;obtain⟨kind,line,op,num,flt,str,refs,kids⟩:=x;simp only at *;have E:Hid (fieldsFits (⟨kind,line,op,num,flt,str,refs,kids⟩:NodeD) 3=(opFit ⟨kind,line,op,num,flt,str,refs,kids⟩ 3&&numFit ⟨kind,line,op,num,flt,str,refs,kids⟩ 3&&fltFit ⟨kind,line,op,num,flt,str,refs,kids⟩ 3&&strFit ⟨kind,line,op,num,flt,str,refs,kids⟩ 3)):=rfl;go_enter Tryz.func86,Tryz.ntmps86;go_wp2_with fail
 go_quiet (fail)
 go_wp2_with (first | (go_at_call 104;refine(isNaN_any _ _).mono ?_;rintro e w' ⟨rfl,rfl⟩))
 all_goals (go_ret;refine⟨?_,unhide HBA _ _⟩;rw[E.out];simp[opFit,numFit,fltFit,strFit,strNone, *])
theorem fieldsFit_4 (x:NodeD)(ra ka:Option Addr)(rc kc:Nat)(w:World)(hkl:x.kids.length<=1048576)(hrl:x.refs.length<=9223372036854775807)(hsl:x.str.size<=9223372036854775807) :
  Calls Tryz.prog 86 #[.agg #[.int .i64 x.kind,.int .i64 x.line,.int .i64 x.op,.int .i64 x.num,.float .f64 x.flt,.string x.str,.slice ra x.refs.length rc,.slice ka x.kids.length kc],.int .i64 4] w fun e w'=>e=.returned (.bool (fieldsFits x 4))/\Below w.heap.size w w':=by
 have HBA:Hid (∀ o q,Below w.heap.size w ((w.alloc o).drewN q)):=fun o q=>((Below.refl _ _).alloc (Nat.le_refl _) o).trans ⟨rfl,rfl,rfl,Nat.le_refl _,fun _ _=>rfl⟩;obtain⟨kind,line,op,num,flt,str,refs,kids⟩:=x;simp only at *;have E:Hid (fieldsFits (⟨kind,line,op,num,flt,str,refs,kids⟩:NodeD) 4=(opFit ⟨kind,line,op,num,flt,str,refs,kids⟩ 4&&numFit ⟨kind,line,op,num,flt,str,refs,kids⟩ 4&&fltFit ⟨kind,line,op,num,flt,str,refs,kids⟩ 4&&strFit ⟨kind,line,op,num,flt,str,refs,kids⟩ 4)):=rfl;go_enter Tryz.func86,Tryz.ntmps86;go_wp2_with fail
 go_quiet (fail)
 go_wp2_with fail
 all_goals (go_ret;refine⟨?_,unhide HBA _ _⟩;rw[E.out];simp[opFit,numFit,fltFit,strFit,fltZero, *])
theorem fieldsFit_5 (x:NodeD)(ra ka:Option Addr)(rc kc:Nat)(w:World)(hkl:x.kids.length<=1048576)(hrl:x.refs.length<=9223372036854775807)(hsl:x.str.size<=9223372036854775807) :
  Calls Tryz.prog 86 #[.agg #[.int .i64 x.kind,.int .i64 x.line,.int .i64 x.op,.int .i64 x.num,.float .f64 x.flt,.string x.str,.slice ra x.refs.length rc,.slice ka x.kids.length kc],.int .i64 5] w fun e w'=>e=.returned (.bool (fieldsFits x 5))/\Below w.heap.size w w':=by
 have HBA:Hid (∀ o q,Below w.heap.size w ((w.alloc o).drewN q)):=fun o q=>((Below.refl _ _).alloc (Nat.le_refl _) o).trans ⟨rfl,rfl,rfl,Nat.le_refl _,fun _ _=>rfl⟩;obtain⟨kind,line,op,num,flt,str,refs,kids⟩:=x;simp only at *;have E:Hid (fieldsFits (⟨kind,line,op,num,flt,str,refs,kids⟩:NodeD) 5=(opFit ⟨kind,line,op,num,flt,str,refs,kids⟩ 5&&numFit ⟨kind,line,op,num,flt,str,refs,kids⟩ 5&&fltFit ⟨kind,line,op,num,flt,str,refs,kids⟩ 5&&strFit ⟨kind,line,op,num,flt,str,refs,kids⟩ 5)):=rfl;go_enter Tryz.func86,Tryz.ntmps86;go_wp2_with fail
 go_quiet (fail)
 go_wp2_with (first | (go_at_call 103;refine(within64_any _ _ _ _).mono ?_;rintro e w' ⟨rfl,rfl⟩))
 all_goals (go_ret;refine⟨?_,unhide HBA _ _⟩;rw[E.out];simp[opFit,numFit,fltFit,strFit,fltZero,strNone, *])
theorem fieldsFit_6 (x:NodeD)(ra ka:Option Addr)(rc kc:Nat)(w:World)(hkl:x.kids.length<=1048576)(hrl:x.refs.length<=9223372036854775807)(hsl:x.str.size<=9223372036854775807) :
  Calls Tryz.prog 86 #[.agg #[.int .i64 x.kind,.int .i64 x.line,.int .i64 x.op,.int .i64 x.num,.float .f64 x.flt,.string x.str,.slice ra x.refs.length rc,.slice ka x.kids.length kc],.int .i64 6] w fun e w'=>e=.returned (.bool (fieldsFits x 6))/\Below w.heap.size w w':=by
 have HBA:Hid (∀ o q,Below w.heap.size w ((w.alloc o).drewN q)):=fun o q=>((Below.refl _ _).alloc (Nat.le_refl _) o).trans ⟨rfl,rfl,rfl,Nat.le_refl _,fun _ _=>rfl⟩;obtain⟨kind,line,op,num,flt,str,refs,kids⟩:=x;simp only at *;have E:Hid (fieldsFits (⟨kind,line,op,num,flt,str,refs,kids⟩:NodeD) 6=(opFit ⟨kind,line,op,num,flt,str,refs,kids⟩ 6&&numFit ⟨kind,line,op,num,flt,str,refs,kids⟩ 6&&fltFit ⟨kind,line,op,num,flt,str,refs,kids⟩ 6&&strFit ⟨kind,line,op,num,flt,str,refs,kids⟩ 6)):=rfl;go_enter Tryz.func86,Tryz.ntmps86;go_wp2_with fail
 go_quiet (fail)
 go_wp2_with (first | (go_at_call 26;refine(within_any _ _ _ _).mono ?_;rintro e w' ⟨rfl,rfl⟩))
 all_goals (go_ret;refine⟨?_,unhide HBA _ _⟩;rw[E.out];simp[opFit,numFit,fltFit,strFit,fltZero,strNone, *])
theorem fieldsFit_7 (x:NodeD)(ra ka:Option Addr)(rc kc:Nat)(w:World)(hkl:x.kids.length<=1048576)(hrl:x.refs.length<=9223372036854775807)(hsl:x.str.size<=9223372036854775807) :
  Calls Tryz.prog 86 #[.agg #[.int .i64 x.kind,.int .i64 x.line,.int .i64 x.op,.int .i64 x.num,.float .f64 x.flt,.string x.str,.slice ra x.refs.length rc,.slice ka x.kids.length kc],.int .i64 7] w fun e w'=>e=.returned (.bool (fieldsFits x 7))/\Below w.heap.size w w':=by
 have HBA:Hid (∀ o q,Below w.heap.size w ((w.alloc o).drewN q)):=fun o q=>((Below.refl _ _).alloc (Nat.le_refl _) o).trans ⟨rfl,rfl,rfl,Nat.le_refl _,fun _ _=>rfl⟩;obtain⟨kind,line,op,num,flt,str,refs,kids⟩:=x;simp only at *;have E:Hid (fieldsFits (⟨kind,line,op,num,flt,str,refs,kids⟩:NodeD) 7=(opFit ⟨kind,line,op,num,flt,str,refs,kids⟩ 7&&numFit ⟨kind,line,op,num,flt,str,refs,kids⟩ 7&&fltFit ⟨kind,line,op,num,flt,str,refs,kids⟩ 7&&strFit ⟨kind,line,op,num,flt,str,refs,kids⟩ 7)):=rfl;go_enter Tryz.func86,Tryz.ntmps86;go_wp2_with fail
 go_quiet (fail)
 go_wp2_with (first | (go_at_call 26;refine(within_any _ _ _ _).mono ?_;rintro e w' ⟨rfl,rfl⟩))
 all_goals (go_ret;refine⟨?_,unhide HBA _ _⟩;rw[E.out];simp[opFit,numFit,fltFit,strFit,fltZero,strNone, *])
theorem fieldsFit_8 (x:NodeD)(ra ka:Option Addr)(rc kc:Nat)(w:World)(hkl:x.kids.length<=1048576)(hrl:x.refs.length<=9223372036854775807)(hsl:x.str.size<=9223372036854775807) :
  Calls Tryz.prog 86 #[.agg #[.int .i64 x.kind,.int .i64 x.line,.int .i64 x.op,.int .i64 x.num,.float .f64 x.flt,.string x.str,.slice ra x.refs.length rc,.slice ka x.kids.length kc],.int .i64 8] w fun e w'=>e=.returned (.bool (fieldsFits x 8))/\Below w.heap.size w w':=by
 have HBA:Hid (∀ o q,Below w.heap.size w ((w.alloc o).drewN q)):=fun o q=>((Below.refl _ _).alloc (Nat.le_refl _) o).trans ⟨rfl,rfl,rfl,Nat.le_refl _,fun _ _=>rfl⟩;obtain⟨kind,line,op,num,flt,str,refs,kids⟩:=x;simp only at *;have E:Hid (fieldsFits (⟨kind,line,op,num,flt,str,refs,kids⟩:NodeD) 8=(opFit ⟨kind,line,op,num,flt,str,refs,kids⟩ 8&&numFit ⟨kind,line,op,num,flt,str,refs,kids⟩ 8&&fltFit ⟨kind,line,op,num,flt,str,refs,kids⟩ 8&&strFit ⟨kind,line,op,num,flt,str,refs,kids⟩ 8)):=rfl;go_enter Tryz.func86,Tryz.ntmps86;go_wp2_with fail
 go_quiet (fail)
 go_wp2_with fail
 all_goals (go_ret;refine⟨?_,unhide HBA _ _⟩;rw[E.out];simp[opFit,numFit,fltFit,strFit,fltZero,strNone, *])
theorem fieldsFit_any (u:Nat)(hu:u<=8)(x:NodeD)(ra ka:Option Addr)(rc kc:Nat)(w:World)(hkl:x.kids.length<=1048576)(hrl:x.refs.length<=9223372036854775807)(hsl:x.str.size<=9223372036854775807) :
  Calls Tryz.prog 86 #[.agg #[.int .i64 x.kind,.int .i64 x.line,.int .i64 x.op,.int .i64 x.num,.float .f64 x.flt,.string x.str,.slice ra x.refs.length rc,.slice ka x.kids.length kc],.int .i64 u] w fun e w'=>e=.returned (.bool (fieldsFits x u))/\Below w.heap.size w w':=by
 match u,hu with
 | 0,_=>exact fieldsFit_0 x ra ka rc kc w hkl hrl hsl
 | 1,_=>exact fieldsFit_1 x ra ka rc kc w hkl hrl hsl
 | 2,_=>exact fieldsFit_2 x ra ka rc kc w hkl hrl hsl
 | 3,_=>exact fieldsFit_3 x ra ka rc kc w hkl hrl hsl
 | 4,_=>exact fieldsFit_4 x ra ka rc kc w hkl hrl hsl
 | 5,_=>exact fieldsFit_5 x ra ka rc kc w hkl hrl hsl
 | 6,_=>exact fieldsFit_6 x ra ka rc kc w hkl hrl hsl
 | 7,_=>exact fieldsFit_7 x ra ka rc kc w hkl hrl hsl
 | 8,_=>exact fieldsFit_8 x ra ka rc kc w hkl hrl hsl
 | n+9,h=>exact absurd h (by omega)
end Go.Proofs.YtofcbekoaghikaaGreatDoor

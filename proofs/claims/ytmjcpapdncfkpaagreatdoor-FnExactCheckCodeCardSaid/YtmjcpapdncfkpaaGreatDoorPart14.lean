import Derived.Test.YtmjcpapdncfkpaaGreatDoorPart13
import Derived.Laws.Externs
set_option linter.unusedSimpArgs false
set_option linter.unusedVariables false
set_option maxHeartbeats 4000000
set_option maxRecDepth 100000
namespace Go.Proofs.YtmjcpapdncfkpaaGreatDoor
open Go.RowKit
theorem within_any (x lo hi:Int)(w:World):Calls Tryz.prog 64 #[.int .i64 x,.int .i64 lo,.int .i64 hi] w fun e w'=>e=.returned (.bool (sIn x lo hi))∧w'=w:=by
 by_cases h1:lo≤x
 ·go_enter Tryz.func64,Tryz.ntmps64
  go_wp2
  go_ret
  exact⟨by simp[sIn,h1],rfl⟩
 ·go_enter Tryz.func64,Tryz.ntmps64
  go_wp2
  go_ret
  exact⟨by simp[sIn];omega,rfl⟩
theorem within64_any (x lo hi:Int)(w:World):Calls Tryz.prog 95 #[.int .i64 x,.int .i64 lo,.int .i64 hi] w fun e w'=>e=.returned (.bool (sIn x lo hi))∧w'=w:=by
 by_cases h1:lo≤x
 ·go_enter Tryz.func95,Tryz.ntmps95
  go_wp2
  go_ret
  exact⟨by simp[sIn,h1],rfl⟩
 ·go_enter Tryz.func95,Tryz.ntmps95
  go_wp2
  go_ret
  exact⟨by simp[sIn];omega,rfl⟩
def sFitsP (n:ProtoD):Bool:=
 decide ((n.name.size:Int)≤40)&&sIn n.line 0 100000&&sIn n.regs 0 250&&sIn n.params 0 (if n.rest then n.regs-1 else n.regs)&&decide ((n.ups.length:Int)≤250)&&decide ((n.consts.length:Int)≤500)
theorem protoFits_any (nm:ByteArray)(ln pr:Int)(rs:Bool)(rg:Int)(us:List (Bool×Int))(cs:List ValD)(is:List InsD)(ns:List NamD)(a5 a6 a7 a8:Option Addr)(c5 c6 c7 c8:Nat)(w:World)(hns:nm.size≤9223372036854775807)(hu:us.length≤9223372036854775807)(hcl:cs.length≤9223372036854775807) :
  Calls Tryz.prog 65 #[.agg #[.string nm,.int .i64 ln,.int .i64 pr,.bool rs,.int .i64 rg,.slice a5 us.length c5,.slice a6 cs.length c6,.slice a7 is.length c7,.slice a8 ns.length c8]] w fun e w'=>e=.returned (.bool (sFitsP ⟨nm,ln,pr,rs,rg,us,cs,is,ns⟩))∧Below w.heap.size w w':=by
 have HBA:Hid (∀ o1,Below w.heap.size w (w.alloc o1)):=fun o1=>(Below.refl _ _).alloc (Nat.le_refl _) o1
 cases rs
 ·have E:Hid (sFitsP ⟨nm,ln,pr,false,rg,us,cs,is,ns⟩=(decide ((nm.size:Int)≤40)&&sIn ln 0 100000&&sIn rg 0 250&&sIn pr 0 (rg)&&decide ((us.length:Int)≤250)&&decide ((cs.length:Int)≤500))):=rfl
  generalize sFitsP ⟨nm,ln,pr,false,rg,us,cs,is,ns⟩=res at *
  by_cases q0:(nm.size:Int)≤40
  ·skip
   cases q1:sIn ln 0 100000
   ·have R:Hid (false=res):=by show _=_;rw[E.out];simp[q1]
    have Q1:=hide q1;clear q1
    clear E
    go_enter Tryz.func65,Tryz.ntmps65
    go_wp2_with fail
    refine(within_any _ _ _ _).mono ?_
    rintro e w' ⟨rfl,rfl⟩
    rw[Q1.out]
    go_wp2_with fail
    go_ret
    refine⟨ret_bool ?_,unhide HBA _⟩
    first | exact unhide R | (rw[←unhide R];simp;omega) | (rw[←unhide R];simp)
   ·have Q1:=hide q1;clear q1
    cases q2:sIn rg 0 250
    ·have R:Hid (false=res):=by show _=_;rw[E.out];simp[q2]
     have Q2:=hide q2;clear q2
     clear E
     go_enter Tryz.func65,Tryz.ntmps65
     go_wp2_with fail
     refine(within_any _ _ _ _).mono ?_
     rintro e w' ⟨rfl,rfl⟩
     rw[Q1.out]
     go_wp2_with fail
     refine(within_any _ _ _ _).mono ?_
     rintro e w' ⟨rfl,rfl⟩
     rw[Q2.out]
     go_wp2_with fail
     go_ret
     refine⟨ret_bool ?_,unhide HBA _⟩
     first | exact unhide R | (rw[←unhide R];simp;omega) | (rw[←unhide R];simp)
    ·have Q2:=hide q2;clear q2
     have hrg:=sIn_true Q2.out
     cases q3:sIn pr 0 (rg)
     ·have R:Hid (false=res):=by show _=_;rw[E.out];simp[q3]
      have Q3:=hide q3;clear q3
      clear E
      go_enter Tryz.func65,Tryz.ntmps65
      go_wp2_with fail
      refine(within_any _ _ _ _).mono ?_
      rintro e w' ⟨rfl,rfl⟩
      rw[Q1.out]
      go_wp2_with fail
      refine(within_any _ _ _ _).mono ?_
      rintro e w' ⟨rfl,rfl⟩
      rw[Q2.out]
      go_wp2_with fail
      refine(within_any _ _ _ _).mono ?_
      rintro e w' ⟨rfl,rfl⟩
      rw[Q3.out]
      go_wp2_with fail
      go_ret
      refine⟨ret_bool ?_,unhide HBA _⟩
      first | exact unhide R | (rw[←unhide R];simp;omega) | (rw[←unhide R];simp)
     ·have Q3:=hide q3;clear q3
      by_cases q4:(us.length:Int)≤250
      ·skip
       by_cases q5:(cs.length:Int)≤500
       ·skip
        have R:Hid (true=res):=by show _=_;rw[E.out];simp[q0,Q1.out,Q2.out,Q3.out,q4,q5]
        clear E
        go_enter Tryz.func65,Tryz.ntmps65
        go_wp2_with fail
        refine(within_any _ _ _ _).mono ?_
        rintro e w' ⟨rfl,rfl⟩
        rw[Q1.out]
        go_wp2_with fail
        refine(within_any _ _ _ _).mono ?_
        rintro e w' ⟨rfl,rfl⟩
        rw[Q2.out]
        go_wp2_with fail
        refine(within_any _ _ _ _).mono ?_
        rintro e w' ⟨rfl,rfl⟩
        rw[Q3.out]
        go_wp2_with fail
        go_ret
        refine⟨ret_bool ?_,unhide HBA _⟩
        first | exact unhide R | (rw[←unhide R];simp;omega) | (rw[←unhide R];simp)
       ·have R:Hid (false=res):=by show _=_;rw[E.out];simp[q5]
        clear E
        go_enter Tryz.func65,Tryz.ntmps65
        go_wp2_with fail
        refine(within_any _ _ _ _).mono ?_
        rintro e w' ⟨rfl,rfl⟩
        rw[Q1.out]
        go_wp2_with fail
        refine(within_any _ _ _ _).mono ?_
        rintro e w' ⟨rfl,rfl⟩
        rw[Q2.out]
        go_wp2_with fail
        refine(within_any _ _ _ _).mono ?_
        rintro e w' ⟨rfl,rfl⟩
        rw[Q3.out]
        go_wp2_with fail
        go_ret
        refine⟨ret_bool ?_,unhide HBA _⟩
        first | exact unhide R | (rw[←unhide R];simp;omega) | (rw[←unhide R];simp)
      ·have R:Hid (false=res):=by show _=_;rw[E.out];simp[q4]
       clear E
       go_enter Tryz.func65,Tryz.ntmps65
       go_wp2_with fail
       refine(within_any _ _ _ _).mono ?_
       rintro e w' ⟨rfl,rfl⟩
       rw[Q1.out]
       go_wp2_with fail
       refine(within_any _ _ _ _).mono ?_
       rintro e w' ⟨rfl,rfl⟩
       rw[Q2.out]
       go_wp2_with fail
       refine(within_any _ _ _ _).mono ?_
       rintro e w' ⟨rfl,rfl⟩
       rw[Q3.out]
       go_wp2_with fail
       go_ret
       refine⟨ret_bool ?_,unhide HBA _⟩
       first | exact unhide R | (rw[←unhide R];simp;omega) | (rw[←unhide R];simp)
  ·have R:Hid (false=res):=by show _=_;rw[E.out];simp[q0]
   clear E
   go_enter Tryz.func65,Tryz.ntmps65
   go_wp2_with fail
   go_ret
   refine⟨ret_bool ?_,unhide HBA _⟩
   first | exact unhide R | (rw[←unhide R];simp;omega) | (rw[←unhide R];simp)
 ·have E:Hid (sFitsP ⟨nm,ln,pr,true,rg,us,cs,is,ns⟩=(decide ((nm.size:Int)≤40)&&sIn ln 0 100000&&sIn rg 0 250&&sIn pr 0 (rg-1)&&decide ((us.length:Int)≤250)&&decide ((cs.length:Int)≤500))):=rfl
  generalize sFitsP ⟨nm,ln,pr,true,rg,us,cs,is,ns⟩=res at *
  by_cases q0:(nm.size:Int)≤40
  ·skip
   cases q1:sIn ln 0 100000
   ·have R:Hid (false=res):=by show _=_;rw[E.out];simp[q1]
    have Q1:=hide q1;clear q1
    clear E
    go_enter Tryz.func65,Tryz.ntmps65
    go_wp2_with fail
    refine(within_any _ _ _ _).mono ?_
    rintro e w' ⟨rfl,rfl⟩
    rw[Q1.out]
    go_wp2_with fail
    go_ret
    refine⟨ret_bool ?_,unhide HBA _⟩
    first | exact unhide R | (rw[←unhide R];simp;omega) | (rw[←unhide R];simp)
   ·have Q1:=hide q1;clear q1
    cases q2:sIn rg 0 250
    ·have R:Hid (false=res):=by show _=_;rw[E.out];simp[q2]
     have Q2:=hide q2;clear q2
     clear E
     go_enter Tryz.func65,Tryz.ntmps65
     go_wp2_with fail
     refine(within_any _ _ _ _).mono ?_
     rintro e w' ⟨rfl,rfl⟩
     rw[Q1.out]
     go_wp2_with fail
     refine(within_any _ _ _ _).mono ?_
     rintro e w' ⟨rfl,rfl⟩
     rw[Q2.out]
     go_wp2_with fail
     go_ret
     refine⟨ret_bool ?_,unhide HBA _⟩
     first | exact unhide R | (rw[←unhide R];simp;omega) | (rw[←unhide R];simp)
    ·have Q2:=hide q2;clear q2
     have hrg:=sIn_true Q2.out
     cases q3:sIn pr 0 (rg-1)
     ·have R:Hid (false=res):=by show _=_;rw[E.out];simp[q3]
      have Q3:=hide q3;clear q3
      clear E
      go_enter Tryz.func65,Tryz.ntmps65
      go_wp2_with fail
      refine(within_any _ _ _ _).mono ?_
      rintro e w' ⟨rfl,rfl⟩
      rw[Q1.out]
      go_wp2_with fail
      refine(within_any _ _ _ _).mono ?_
      rintro e w' ⟨rfl,rfl⟩
      rw[Q2.out]
      go_wp2_with fail
      refine(within_any _ _ _ _).mono ?_
      rintro e w' ⟨rfl,rfl⟩
      rw[Q3.out]
      go_wp2_with fail
      go_ret
      refine⟨ret_bool ?_,unhide HBA _⟩
      first | exact unhide R | (rw[←unhide R];simp;omega) | (rw[←unhide R];simp)
     ·have Q3:=hide q3;clear q3
      by_cases q4:(us.length:Int)≤250
      ·skip
       by_cases q5:(cs.length:Int)≤500
       ·skip
        have R:Hid (true=res):=by show _=_;rw[E.out];simp[q0,Q1.out,Q2.out,Q3.out,q4,q5]
        clear E
        go_enter Tryz.func65,Tryz.ntmps65
        go_wp2_with fail
        refine(within_any _ _ _ _).mono ?_
        rintro e w' ⟨rfl,rfl⟩
        rw[Q1.out]
        go_wp2_with fail
        refine(within_any _ _ _ _).mono ?_
        rintro e w' ⟨rfl,rfl⟩
        rw[Q2.out]
        go_wp2_with fail
        refine(within_any _ _ _ _).mono ?_
        rintro e w' ⟨rfl,rfl⟩
        rw[Q3.out]
        go_wp2_with fail
        go_ret
        refine⟨ret_bool ?_,unhide HBA _⟩
        first | exact unhide R | (rw[←unhide R];simp;omega) | (rw[←unhide R];simp)
       ·have R:Hid (false=res):=by show _=_;rw[E.out];simp[q5]
        clear E
        go_enter Tryz.func65,Tryz.ntmps65
        go_wp2_with fail
        refine(within_any _ _ _ _).mono ?_
        rintro e w' ⟨rfl,rfl⟩
        rw[Q1.out]
        go_wp2_with fail
        refine(within_any _ _ _ _).mono ?_
        rintro e w' ⟨rfl,rfl⟩
        rw[Q2.out]
        go_wp2_with fail
        refine(within_any _ _ _ _).mono ?_
        rintro e w' ⟨rfl,rfl⟩
        rw[Q3.out]
        go_wp2_with fail
        go_ret
        refine⟨ret_bool ?_,unhide HBA _⟩
        first | exact unhide R | (rw[←unhide R];simp;omega) | (rw[←unhide R];simp)
      ·have R:Hid (false=res):=by show _=_;rw[E.out];simp[q4]
       clear E
       go_enter Tryz.func65,Tryz.ntmps65
       go_wp2_with fail
       refine(within_any _ _ _ _).mono ?_
       rintro e w' ⟨rfl,rfl⟩
       rw[Q1.out]
       go_wp2_with fail
       refine(within_any _ _ _ _).mono ?_
       rintro e w' ⟨rfl,rfl⟩
       rw[Q2.out]
       go_wp2_with fail
       refine(within_any _ _ _ _).mono ?_
       rintro e w' ⟨rfl,rfl⟩
       rw[Q3.out]
       go_wp2_with fail
       go_ret
       refine⟨ret_bool ?_,unhide HBA _⟩
       first | exact unhide R | (rw[←unhide R];simp;omega) | (rw[←unhide R];simp)
  ·have R:Hid (false=res):=by show _=_;rw[E.out];simp[q0]
   clear E
   go_enter Tryz.func65,Tryz.ntmps65
   go_wp2_with fail
   go_ret
   refine⟨ret_bool ?_,unhide HBA _⟩
   first | exact unhide R | (rw[←unhide R];simp;omega) | (rw[←unhide R];simp)
def sNamF (rg:Int)(ni:Nat)(n:NamD):Bool:=sIn n.name.size 1 40&&sIn n.reg 0 (rg-1)&&sIn n.fro 0 n.til&&decide (n.til≤ni)
theorem sNamed_eq (rg:Int)(ni:Nat)(n:NamD)(i:Nat):sNamed rg ni n i=(decide ((i:Int)<500)&&sNamF rg ni n):=by
 unfold sNamed sNamF sIn
 simp only[Bool.and_assoc]
theorem namedFits_any (name:ByteArray)(reg fro til:Int)(nm:ByteArray)(ln pr:Int)(rs:Bool)(rg:Int)(us:List (Bool×Int))(cs:List ValD)(is:List InsD)(ns:List NamD)(a5 a6 a7 a8:Option Addr)(c5 c6 c7 c8:Nat)(w:World)(hns:name.size≤9223372036854775807)(hil:is.length≤9223372036854775807)(hrg:0≤rg∧rg≤250) :
  Calls Tryz.prog 67 #[.agg #[.string name,.int .i64 reg,.int .i64 fro,.int .i64 til],.agg #[.string nm,.int .i64 ln,.int .i64 pr,.bool rs,.int .i64 rg,.slice a5 us.length c5,.slice a6 cs.length c6,.slice a7 is.length c7,.slice a8 ns.length c8]] w fun e w'=>e=.returned (.bool (sNamF rg is.length ⟨name,reg,fro,til⟩))∧Below w.heap.size w w':=by
 have HBA:Hid (∀ o1 o2,Below w.heap.size w ((w.alloc o1).alloc o2)):=fun o1 o2=>((Below.refl _ _).alloc (Nat.le_refl _) o1).alloc (by simp) o2
 obtain⟨hr0,hr1⟩:=hrg
 have E:Hid (sNamF rg is.length ⟨name,reg,fro,til⟩=(sIn name.size 1 40&&sIn reg 0 (rg-1)&&sIn fro 0 til&&decide (til≤is.length))):=rfl
 generalize sNamF rg is.length ⟨name,reg,fro,til⟩=res at *
 cases q0:sIn name.size 1 40
 ·have R:Hid (false=res):=by show _=_;rw[E.out];simp[q0]
  have Q0:=hide q0;clear q0
  clear E
  go_enter Tryz.func67,Tryz.ntmps67
  go_wp2_with fail
  refine(within_any _ _ _ _).mono ?_
  rintro e w' ⟨rfl,rfl⟩
  rw[Q0.out]
  go_wp2_with fail
  go_ret
  refine⟨ret_bool ?_,unhide HBA _ _⟩
  first | exact unhide R | (rw[←unhide R];simp;omega) | (rw[←unhide R];simp)
 ·have Q0:=hide q0;clear q0
  cases q1:sIn reg 0 (rg-1)
  ·have R:Hid (false=res):=by show _=_;rw[E.out];simp[q1]
   have Q1:=hide q1;clear q1
   clear E
   go_enter Tryz.func67,Tryz.ntmps67
   go_wp2_with fail
   refine(within_any _ _ _ _).mono ?_
   rintro e w' ⟨rfl,rfl⟩
   rw[Q0.out]
   go_wp2_with fail
   refine(within_any _ _ _ _).mono ?_
   rintro e w' ⟨rfl,rfl⟩
   rw[Q1.out]
   go_wp2_with fail
   go_ret
   refine⟨ret_bool ?_,unhide HBA _ _⟩
   first | exact unhide R | (rw[←unhide R];simp;omega) | (rw[←unhide R];simp)
  ·have Q1:=hide q1;clear q1
   cases q2:sIn fro 0 til
   ·have R:Hid (false=res):=by show _=_;rw[E.out];simp[q2]
    have Q2:=hide q2;clear q2
    clear E
    go_enter Tryz.func67,Tryz.ntmps67
    go_wp2_with fail
    refine(within_any _ _ _ _).mono ?_
    rintro e w' ⟨rfl,rfl⟩
    rw[Q0.out]
    go_wp2_with fail
    refine(within_any _ _ _ _).mono ?_
    rintro e w' ⟨rfl,rfl⟩
    rw[Q1.out]
    go_wp2_with fail
    refine(within_any _ _ _ _).mono ?_
    rintro e w' ⟨rfl,rfl⟩
    rw[Q2.out]
    go_wp2_with fail
    go_ret
    refine⟨ret_bool ?_,unhide HBA _ _⟩
    first | exact unhide R | (rw[←unhide R];simp;omega) | (rw[←unhide R];simp)
   ·have Q2:=hide q2;clear q2
    by_cases q3:til≤is.length
    ·skip
     have R:Hid (true=res):=by show _=_;rw[E.out];simp[Q0.out,Q1.out,Q2.out,q3]
     clear E
     go_enter Tryz.func67,Tryz.ntmps67
     go_wp2_with fail
     refine(within_any _ _ _ _).mono ?_
     rintro e w' ⟨rfl,rfl⟩
     rw[Q0.out]
     go_wp2_with fail
     refine(within_any _ _ _ _).mono ?_
     rintro e w' ⟨rfl,rfl⟩
     rw[Q1.out]
     go_wp2_with fail
     refine(within_any _ _ _ _).mono ?_
     rintro e w' ⟨rfl,rfl⟩
     rw[Q2.out]
     go_wp2_with fail
     go_ret
     refine⟨ret_bool ?_,unhide HBA _ _⟩
     first | exact unhide R | (rw[←unhide R];simp;omega) | (rw[←unhide R];simp)
    ·have R:Hid (false=res):=by show _=_;rw[E.out];simp[q3]
     clear E
     go_enter Tryz.func67,Tryz.ntmps67
     go_wp2_with fail
     refine(within_any _ _ _ _).mono ?_
     rintro e w' ⟨rfl,rfl⟩
     rw[Q0.out]
     go_wp2_with fail
     refine(within_any _ _ _ _).mono ?_
     rintro e w' ⟨rfl,rfl⟩
     rw[Q1.out]
     go_wp2_with fail
     refine(within_any _ _ _ _).mono ?_
     rintro e w' ⟨rfl,rfl⟩
     rw[Q2.out]
     go_wp2_with fail
     go_ret
     refine⟨ret_bool ?_,unhide HBA _ _⟩
     first | exact unhide R | (rw[←unhide R];simp;omega) | (rw[←unhide R];simp)
def sGoesOn (op:Int):Bool:=!(op==19||op==29||op==30)
theorem goesOn_any (op a b c d:Int)(w:World):Calls Tryz.prog 69 #[.agg #[.int .i64 op,.int .i64 a,.int .i64 b,.int .i64 c,.int .i64 d]] w fun e w'=>e=.returned (.bool (sGoesOn op))∧Below w.heap.size w w':=by
 have HBA:Hid (∀ o1,Below w.heap.size w (w.alloc o1)):=fun o1=>(Below.refl _ _).alloc (Nat.le_refl _) o1
 cases k1:op != 19
 ·go_enter Tryz.func69,Tryz.ntmps69
  go_wp2_with fail
  go_ret
  exact⟨ret_bool (by simp at k1;simp[sGoesOn,k1]),unhide HBA _⟩
 cases k2:op != 29
 ·go_enter Tryz.func69,Tryz.ntmps69
  go_wp2_with fail
  go_ret
  exact⟨ret_bool (by simp at k2;simp[sGoesOn,k2]),unhide HBA _⟩
 ·go_enter Tryz.func69,Tryz.ntmps69
  go_wp2_with fail
  go_ret
  refine⟨ret_bool ?_,unhide HBA _⟩
  simp at k1 k2
  show(!(op==30))=_
  simp[sGoesOn,k1,k2]
theorem bits_run (x:Nat)(w:World):(callFunc 114 #[.float .f64 x]).run Tryz.prog w=.ok (.value (.int .u64 x)) w:=by
 rw[run_callFunc_extern Tryz.func114 (by kernel_rfl) (by kernel_rfl) (by kernel_rfl) (e:=Extern.MathFloatBits.float64bits) (by kernel_rfl)]
 rfl
theorem sgn_wrap64 (x:Nat):decide (wrap64 (x:Int)<0)=sgnBit x:=by
 unfold sgnBit wrap64
 by_cases c:x / 9223372036854775808 % 2=1
 ·rw[show(x / 9223372036854775808 % 2==1)=true from by simp[c]]
  exact decide_eq_true (by omega)
 ·rw[show(x / 9223372036854775808 % 2==1)=false from by simp[c]]
  exact decide_eq_false (by omega)
theorem signbit_any (x:Nat)(w:World):Calls Tryz.prog 94 #[.float .f64 x] w fun e w'=>e=.returned (.bool (sgnBit x))∧w'=w:=by
 have hb:=fun w=>bits_run x w
 go_enter Tryz.func94,Tryz.ntmps94
 go_wp2_with fail
 go_ret
 exact⟨ret_bool (sgn_wrap64 x),rfl⟩
theorem isNaN_any (x:Nat)(w:World):Calls Tryz.prog 96 #[.float .f64 x] w fun e w'=>e=.returned (.bool (!fltNum x))∧w'=w:=by
 go_enter Tryz.func96,Tryz.ntmps96
 go_wp2_with fail
 go_ret
 exact⟨ret_bool rfl,rfl⟩
end Go.Proofs.YtmjcpapdncfkpaaGreatDoor

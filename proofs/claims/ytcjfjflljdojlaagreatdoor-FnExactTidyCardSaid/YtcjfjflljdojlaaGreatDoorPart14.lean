import Derived.Test.YtcjfjflljdojlaaGreatDoorPart13
import Derived.Laws.Externs
set_option linter.unusedSimpArgs false
set_option linter.unusedVariables false
set_option maxHeartbeats 4000000
set_option maxRecDepth 100000
namespace Go.Proofs.YtcjfjflljdojlaaGreatDoor
open Go.RowKit
theorem az (x lo hi:Int)(w:World):c_ 111 #[i_ x,i_ lo,i_ hi] w fun e w'=>e=.returned (.bool (dw x lo hi))/\w'=w:=by
 by_cases h1:lo<=x
 ·go_enter Tryz.func111,Tryz.ntmps111
  go_wp2
  go_ret;exact⟨by simp[dw,h1],rfl⟩
 ·go_enter Tryz.func111,Tryz.ntmps111
  go_wp2
  go_ret;exact⟨by simp[dw];omega,rfl⟩
theorem gD (x lo hi:Int)(w:World):c_ 137 #[i_ x,i_ lo,i_ hi] w fun e w'=>e=.returned (.bool (dw x lo hi))/\w'=w:=by
 by_cases h1:lo<=x
 ·go_enter Tryz.func137,Tryz.ntmps137
  go_wp2
  go_ret;exact⟨by simp[dw,h1],rfl⟩
 ·go_enter Tryz.func137,Tryz.ntmps137
  go_wp2
  go_ret;exact⟨by simp[dw];omega,rfl⟩
def o9 (n:ak):Bool:=
 decide ((n.name.size:Int)<=40)&&dw n.line 0 100000&&dw n.regs 0 250&&dw n.params 0 (if n.rest then n.regs-1 else n.regs)&&decide ((n.ups.length:Int)<=250)&&decide ((n.consts.length:Int)<=500)
theorem vv (nm:ByteArray)(ln pr:Int)(rs:Bool)(rg:Int)(us:List (Bool×Int))(cs:List cS)(is:List aA)(ns:List bE)(a5 a6 a7 a8:o_)(c5 c6 c7 c8:Nat)(w:World)(RZ:nm.size<=9223372036854775807)(hu:us.length<=9223372036854775807)(qJ:cs.length<=9223372036854775807) :
  c_ 112 #[.agg #[.string nm,i_ ln,i_ pr,.bool rs,i_ rg,.slice a5 us.length c5,.slice a6 cs.length c6,.slice a7 is.length c7,.slice a8 ns.length c8]] w fun e w'=>e=.returned (.bool (o9 ⟨nm,ln,pr,rs,rg,us,cs,is,ns⟩))/\b_ w w':=by
 have dR:Hid (∀ o1,b_ w (w.alloc o1)):=fun o1=>r_.alloc n_ o1;cases rs
 ·have E:Hid (o9 ⟨nm,ln,pr,false,rg,us,cs,is,ns⟩=(decide ((nm.size:Int)<=40)&&dw ln 0 100000&&dw rg 0 250&&dw pr 0 (rg)&&decide ((us.length:Int)<=250)&&decide ((cs.length:Int)<=500))):=rfl;generalize o9 ⟨nm,ln,pr,false,rg,us,cs,is,ns⟩=res at *;by_cases q0:(nm.size:Int)<=40
  ·skip
   cases q1:dw ln 0 100000
   ·have R:Hid (false=res):=by show _=_;rw[E.out];simp[q1]
    have Q1:=af q1;clear q1;clear E;go_enter Tryz.func112,Tryz.ntmps112;go_wp2_with fail
    refine(az _ _ _ _).mono ?_;rintro e w' ⟨rfl,rfl⟩;rw[Q1.out];go_wp2_with fail
    go_ret;refine⟨al ?_,aa dR _⟩
    first | exact aa R | (rw[<-aa R];simp;omega) | (rw[<-aa R];simp)
   ·have Q1:=af q1;clear q1;cases q2:dw rg 0 250
    ·have R:Hid (false=res):=by show _=_;rw[E.out];simp[q2]
     have Q2:=af q2;clear q2;clear E;go_enter Tryz.func112,Tryz.ntmps112;go_wp2_with fail
     refine(az _ _ _ _).mono ?_;rintro e w' ⟨rfl,rfl⟩;rw[Q1.out];go_wp2_with fail
     refine(az _ _ _ _).mono ?_;rintro e w' ⟨rfl,rfl⟩;rw[Q2.out];go_wp2_with fail
     go_ret;refine⟨al ?_,aa dR _⟩
     first | exact aa R | (rw[<-aa R];simp;omega) | (rw[<-aa R];simp)
    ·have Q2:=af q2;clear q2;have ko:=aV Q2.out;cases q3:dw pr 0 (rg)
     ·have R:Hid (false=res):=by show _=_;rw[E.out];simp[q3]
      have Q3:=af q3;clear q3;clear E;go_enter Tryz.func112,Tryz.ntmps112;go_wp2_with fail
      refine(az _ _ _ _).mono ?_;rintro e w' ⟨rfl,rfl⟩;rw[Q1.out];go_wp2_with fail
      refine(az _ _ _ _).mono ?_;rintro e w' ⟨rfl,rfl⟩;rw[Q2.out];go_wp2_with fail
      refine(az _ _ _ _).mono ?_;rintro e w' ⟨rfl,rfl⟩;rw[Q3.out];go_wp2_with fail
      go_ret;refine⟨al ?_,aa dR _⟩
      first | exact aa R | (rw[<-aa R];simp;omega) | (rw[<-aa R];simp)
     ·have Q3:=af q3;clear q3;by_cases q4:(us.length:Int)<=250
      ·skip
       by_cases q5:(cs.length:Int)<=500
       ·skip
        have R:Hid (true=res):=by show _=_;rw[E.out];simp[q0,Q1.out,Q2.out,Q3.out,q4,q5]
        clear E;go_enter Tryz.func112,Tryz.ntmps112;go_wp2_with fail
        refine(az _ _ _ _).mono ?_;rintro e w' ⟨rfl,rfl⟩;rw[Q1.out];go_wp2_with fail
        refine(az _ _ _ _).mono ?_;rintro e w' ⟨rfl,rfl⟩;rw[Q2.out];go_wp2_with fail
        refine(az _ _ _ _).mono ?_;rintro e w' ⟨rfl,rfl⟩;rw[Q3.out];go_wp2_with fail
        go_ret;refine⟨al ?_,aa dR _⟩
        first | exact aa R | (rw[<-aa R];simp;omega) | (rw[<-aa R];simp)
       ·have R:Hid (false=res):=by show _=_;rw[E.out];simp[q5]
        clear E;go_enter Tryz.func112,Tryz.ntmps112;go_wp2_with fail
        refine(az _ _ _ _).mono ?_;rintro e w' ⟨rfl,rfl⟩;rw[Q1.out];go_wp2_with fail
        refine(az _ _ _ _).mono ?_;rintro e w' ⟨rfl,rfl⟩;rw[Q2.out];go_wp2_with fail
        refine(az _ _ _ _).mono ?_;rintro e w' ⟨rfl,rfl⟩;rw[Q3.out];go_wp2_with fail
        go_ret;refine⟨al ?_,aa dR _⟩
        first | exact aa R | (rw[<-aa R];simp;omega) | (rw[<-aa R];simp)
      ·have R:Hid (false=res):=by show _=_;rw[E.out];simp[q4]
       clear E;go_enter Tryz.func112,Tryz.ntmps112;go_wp2_with fail
       refine(az _ _ _ _).mono ?_;rintro e w' ⟨rfl,rfl⟩;rw[Q1.out];go_wp2_with fail
       refine(az _ _ _ _).mono ?_;rintro e w' ⟨rfl,rfl⟩;rw[Q2.out];go_wp2_with fail
       refine(az _ _ _ _).mono ?_;rintro e w' ⟨rfl,rfl⟩;rw[Q3.out];go_wp2_with fail
       go_ret;refine⟨al ?_,aa dR _⟩
       first | exact aa R | (rw[<-aa R];simp;omega) | (rw[<-aa R];simp)
  ·have R:Hid (false=res):=by show _=_;rw[E.out];simp[q0]
   clear E;go_enter Tryz.func112,Tryz.ntmps112;go_wp2_with fail
   go_ret;refine⟨al ?_,aa dR _⟩
   first | exact aa R | (rw[<-aa R];simp;omega) | (rw[<-aa R];simp)
 ·have E:Hid (o9 ⟨nm,ln,pr,true,rg,us,cs,is,ns⟩=(decide ((nm.size:Int)<=40)&&dw ln 0 100000&&dw rg 0 250&&dw pr 0 (rg-1)&&decide ((us.length:Int)<=250)&&decide ((cs.length:Int)<=500))):=rfl;generalize o9 ⟨nm,ln,pr,true,rg,us,cs,is,ns⟩=res at *;by_cases q0:(nm.size:Int)<=40
  ·skip
   cases q1:dw ln 0 100000
   ·have R:Hid (false=res):=by show _=_;rw[E.out];simp[q1]
    have Q1:=af q1;clear q1;clear E;go_enter Tryz.func112,Tryz.ntmps112;go_wp2_with fail
    refine(az _ _ _ _).mono ?_;rintro e w' ⟨rfl,rfl⟩;rw[Q1.out];go_wp2_with fail
    go_ret;refine⟨al ?_,aa dR _⟩
    first | exact aa R | (rw[<-aa R];simp;omega) | (rw[<-aa R];simp)
   ·have Q1:=af q1;clear q1;cases q2:dw rg 0 250
    ·have R:Hid (false=res):=by show _=_;rw[E.out];simp[q2]
     have Q2:=af q2;clear q2;clear E;go_enter Tryz.func112,Tryz.ntmps112;go_wp2_with fail
     refine(az _ _ _ _).mono ?_;rintro e w' ⟨rfl,rfl⟩;rw[Q1.out];go_wp2_with fail
     refine(az _ _ _ _).mono ?_;rintro e w' ⟨rfl,rfl⟩;rw[Q2.out];go_wp2_with fail
     go_ret;refine⟨al ?_,aa dR _⟩
     first | exact aa R | (rw[<-aa R];simp;omega) | (rw[<-aa R];simp)
    ·have Q2:=af q2;clear q2;have ko:=aV Q2.out;cases q3:dw pr 0 (rg-1)
     ·have R:Hid (false=res):=by show _=_;rw[E.out];simp[q3]
      have Q3:=af q3;clear q3;clear E;go_enter Tryz.func112,Tryz.ntmps112;go_wp2_with fail
      refine(az _ _ _ _).mono ?_;rintro e w' ⟨rfl,rfl⟩;rw[Q1.out];go_wp2_with fail
      refine(az _ _ _ _).mono ?_;rintro e w' ⟨rfl,rfl⟩;rw[Q2.out];go_wp2_with fail
      refine(az _ _ _ _).mono ?_;rintro e w' ⟨rfl,rfl⟩;rw[Q3.out];go_wp2_with fail
      go_ret;refine⟨al ?_,aa dR _⟩
      first | exact aa R | (rw[<-aa R];simp;omega) | (rw[<-aa R];simp)
     ·have Q3:=af q3;clear q3;by_cases q4:(us.length:Int)<=250
      ·skip
       by_cases q5:(cs.length:Int)<=500
       ·skip
        have R:Hid (true=res):=by show _=_;rw[E.out];simp[q0,Q1.out,Q2.out,Q3.out,q4,q5]
        clear E;go_enter Tryz.func112,Tryz.ntmps112;go_wp2_with fail
        refine(az _ _ _ _).mono ?_;rintro e w' ⟨rfl,rfl⟩;rw[Q1.out];go_wp2_with fail
        refine(az _ _ _ _).mono ?_;rintro e w' ⟨rfl,rfl⟩;rw[Q2.out];go_wp2_with fail
        refine(az _ _ _ _).mono ?_;rintro e w' ⟨rfl,rfl⟩;rw[Q3.out];go_wp2_with fail
        go_ret;refine⟨al ?_,aa dR _⟩
        first | exact aa R | (rw[<-aa R];simp;omega) | (rw[<-aa R];simp)
       ·have R:Hid (false=res):=by show _=_;rw[E.out];simp[q5]
        clear E;go_enter Tryz.func112,Tryz.ntmps112;go_wp2_with fail
        refine(az _ _ _ _).mono ?_;rintro e w' ⟨rfl,rfl⟩;rw[Q1.out];go_wp2_with fail
        refine(az _ _ _ _).mono ?_;rintro e w' ⟨rfl,rfl⟩;rw[Q2.out];go_wp2_with fail
        refine(az _ _ _ _).mono ?_;rintro e w' ⟨rfl,rfl⟩;rw[Q3.out];go_wp2_with fail
        go_ret;refine⟨al ?_,aa dR _⟩
        first | exact aa R | (rw[<-aa R];simp;omega) | (rw[<-aa R];simp)
      ·have R:Hid (false=res):=by show _=_;rw[E.out];simp[q4]
       clear E;go_enter Tryz.func112,Tryz.ntmps112;go_wp2_with fail
       refine(az _ _ _ _).mono ?_;rintro e w' ⟨rfl,rfl⟩;rw[Q1.out];go_wp2_with fail
       refine(az _ _ _ _).mono ?_;rintro e w' ⟨rfl,rfl⟩;rw[Q2.out];go_wp2_with fail
       refine(az _ _ _ _).mono ?_;rintro e w' ⟨rfl,rfl⟩;rw[Q3.out];go_wp2_with fail
       go_ret;refine⟨al ?_,aa dR _⟩
       first | exact aa R | (rw[<-aa R];simp;omega) | (rw[<-aa R];simp)
  ·have R:Hid (false=res):=by show _=_;rw[E.out];simp[q0]
   clear E;go_enter Tryz.func112,Tryz.ntmps112;go_wp2_with fail
   go_ret;refine⟨al ?_,aa dR _⟩
   first | exact aa R | (rw[<-aa R];simp;omega) | (rw[<-aa R];simp)
def uf (rg:Int)(ni:Nat)(n:bE):Bool:=dw n.name.size 1 40&&dw n.reg 0 (rg-1)&&dw n.fro 0 n.til&&decide (n.til<=ni)
theorem rt (rg:Int)(ni:Nat)(n:bE)(i:Nat):kJ rg ni n i=(decide ((i:Int)<500)&&uf rg ni n):=by
 unfold kJ uf dw;simp only[Bool.and_assoc]
theorem vz (name:ByteArray)(reg fro til:Int)(nm:ByteArray)(ln pr:Int)(rs:Bool)(rg:Int)(us:List (Bool×Int))(cs:List cS)(is:List aA)(ns:List bE)(a5 a6 a7 a8:o_)(c5 c6 c7 c8:Nat)(w:World)(RZ:name.size<=9223372036854775807)(jn:is.length<=9223372036854775807)(ko:0<=rg/\rg<=250) :
  c_ 114 #[.agg #[.string name,i_ reg,i_ fro,i_ til],.agg #[.string nm,i_ ln,i_ pr,.bool rs,i_ rg,.slice a5 us.length c5,.slice a6 cs.length c6,.slice a7 is.length c7,.slice a8 ns.length c8]] w fun e w'=>e=.returned (.bool (uf rg is.length ⟨name,reg,fro,til⟩))/\b_ w w':=by
 have dR:Hid (∀ o1 o2,b_ w ((w.alloc o1).alloc o2)):=fun o1 o2=>(r_.alloc n_ o1).alloc (by simp) o2;obtain⟨qK,vj⟩:=ko;have E:Hid (uf rg is.length ⟨name,reg,fro,til⟩=(dw name.size 1 40&&dw reg 0 (rg-1)&&dw fro 0 til&&decide (til<=is.length))):=rfl;generalize uf rg is.length ⟨name,reg,fro,til⟩=res at *;cases q0:dw name.size 1 40
 ·have R:Hid (false=res):=by show _=_;rw[E.out];simp[q0]
  have Q0:=af q0;clear q0;clear E;go_enter Tryz.func114,Tryz.ntmps114;go_wp2_with fail
  refine(az _ _ _ _).mono ?_;rintro e w' ⟨rfl,rfl⟩;rw[Q0.out];go_wp2_with fail
  go_ret;refine⟨al ?_,aa dR _ _⟩
  first | exact aa R | (rw[<-aa R];simp;omega) | (rw[<-aa R];simp)
 ·have Q0:=af q0;clear q0;cases q1:dw reg 0 (rg-1)
  ·have R:Hid (false=res):=by show _=_;rw[E.out];simp[q1]
   have Q1:=af q1;clear q1;clear E;go_enter Tryz.func114,Tryz.ntmps114;go_wp2_with fail
   refine(az _ _ _ _).mono ?_;rintro e w' ⟨rfl,rfl⟩;rw[Q0.out];go_wp2_with fail
   refine(az _ _ _ _).mono ?_;rintro e w' ⟨rfl,rfl⟩;rw[Q1.out];go_wp2_with fail
   go_ret;refine⟨al ?_,aa dR _ _⟩
   first | exact aa R | (rw[<-aa R];simp;omega) | (rw[<-aa R];simp)
  ·have Q1:=af q1;clear q1;cases q2:dw fro 0 til
   ·have R:Hid (false=res):=by show _=_;rw[E.out];simp[q2]
    have Q2:=af q2;clear q2;clear E;go_enter Tryz.func114,Tryz.ntmps114;go_wp2_with fail
    refine(az _ _ _ _).mono ?_;rintro e w' ⟨rfl,rfl⟩;rw[Q0.out];go_wp2_with fail
    refine(az _ _ _ _).mono ?_;rintro e w' ⟨rfl,rfl⟩;rw[Q1.out];go_wp2_with fail
    refine(az _ _ _ _).mono ?_;rintro e w' ⟨rfl,rfl⟩;rw[Q2.out];go_wp2_with fail
    go_ret;refine⟨al ?_,aa dR _ _⟩
    first | exact aa R | (rw[<-aa R];simp;omega) | (rw[<-aa R];simp)
   ·have Q2:=af q2;clear q2;by_cases q3:til<=is.length
    ·skip
     have R:Hid (true=res):=by show _=_;rw[E.out];simp[Q0.out,Q1.out,Q2.out,q3]
     clear E;go_enter Tryz.func114,Tryz.ntmps114;go_wp2_with fail
     refine(az _ _ _ _).mono ?_;rintro e w' ⟨rfl,rfl⟩;rw[Q0.out];go_wp2_with fail
     refine(az _ _ _ _).mono ?_;rintro e w' ⟨rfl,rfl⟩;rw[Q1.out];go_wp2_with fail
     refine(az _ _ _ _).mono ?_;rintro e w' ⟨rfl,rfl⟩;rw[Q2.out];go_wp2_with fail
     go_ret;refine⟨al ?_,aa dR _ _⟩
     first | exact aa R | (rw[<-aa R];simp;omega) | (rw[<-aa R];simp)
    ·have R:Hid (false=res):=by show _=_;rw[E.out];simp[q3]
     clear E;go_enter Tryz.func114,Tryz.ntmps114;go_wp2_with fail
     refine(az _ _ _ _).mono ?_;rintro e w' ⟨rfl,rfl⟩;rw[Q0.out];go_wp2_with fail
     refine(az _ _ _ _).mono ?_;rintro e w' ⟨rfl,rfl⟩;rw[Q1.out];go_wp2_with fail
     refine(az _ _ _ _).mono ?_;rintro e w' ⟨rfl,rfl⟩;rw[Q2.out];go_wp2_with fail
     go_ret;refine⟨al ?_,aa dR _ _⟩
     first | exact aa R | (rw[<-aa R];simp;omega) | (rw[<-aa R];simp)
def eF (op:Int):Bool:=!(op==19||op==29||op==30)
theorem me (op a b c d:Int)(w:World):c_ 116 #[.agg #[i_ op,i_ a,i_ b,i_ c,i_ d]] w fun e w'=>e=.returned (.bool (eF op))/\b_ w w':=by
 have dR:Hid (∀ o1,b_ w (w.alloc o1)):=fun o1=>r_.alloc n_ o1;cases k1:op != 19
 ·go_enter Tryz.func116,Tryz.ntmps116;go_wp2_with fail
  go_ret;exact⟨al (by simp at k1;simp[eF,k1]),aa dR _⟩
 cases k2:op != 29
 ·go_enter Tryz.func116,Tryz.ntmps116;go_wp2_with fail
  go_ret;exact⟨al (by simp at k2;simp[eF,k2]),aa dR _⟩
 ·go_enter Tryz.func116,Tryz.ntmps116;go_wp2_with fail
  go_ret;refine⟨al ?_,aa dR _⟩;simp at k1 k2;show(!(op==30))=_;simp[eF,k1,k2]
theorem Km (x:Nat)(w:World):(callFunc 152 #[.float .f64 x]).run Tryz.prog w=.ok (.value (.int .u64 x)) w:=by
 rw[run_callFunc_extern Tryz.func152 (by kernel_rfl) (by kernel_rfl) (by kernel_rfl) (e:=Extern.MathFloatBits.float64bits) (by kernel_rfl)];rfl
theorem De (x:Nat):decide (wrap64 (x:Int)<0)=fC x:=by
 unfold fC wrap64;by_cases c:x / 9223372036854775808 % 2=1
 ·rw[show(x / 9223372036854775808 % 2==1)=true from by simp[c]];exact decide_eq_true (by omega)
 ·rw[show(x / 9223372036854775808 % 2==1)=false from by simp[c]];exact decide_eq_false (by omega)
theorem dy (x:Nat)(w:World):c_ 136 #[.float .f64 x] w fun e w'=>e=.returned (.bool (fC x))/\w'=w:=by
 have hb:=fun w=>Km x w;go_enter Tryz.func136,Tryz.ntmps136;go_wp2_with fail
 go_ret;exact⟨al (De x),rfl⟩
theorem rj (x:Nat)(w:World):c_ 138 #[.float .f64 x] w fun e w'=>e=.returned (.bool (!ue x))/\w'=w:=by
 go_enter Tryz.func138,Tryz.ntmps138;go_wp2_with fail
 go_ret;exact⟨al rfl,rfl⟩
end Go.Proofs.YtcjfjflljdojlaaGreatDoor

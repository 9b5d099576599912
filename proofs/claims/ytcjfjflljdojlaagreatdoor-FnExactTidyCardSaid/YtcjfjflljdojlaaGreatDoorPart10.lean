import Derived.Test.YtcjfjflljdojlaaGreatDoorPart09
set_option linter.all false
set_option maxHeartbeats 4000000
set_option maxRecDepth 100000
namespace Go.Proofs.YtcjfjflljdojlaaGreatDoor
open Go.RowKit
theorem ay (x lo hi:Int)(w:w_):c_ 111 #[i_ x,i_ lo,i_ hi] w fun e w'=>e=.returned (.bool (dw x lo hi))/\w'=w:=by
 by_cases h1:lo<=x;{go_enter Tryz.func111,Tryz.ntmps111;go_wp2;go_ret;exact⟨by simp[dw,h1],rfl⟩};{go_enter Tryz.func111,Tryz.ntmps111;go_wp2;go_ret;exact⟨by simp[dw];omega,rfl⟩}
theorem gH (x lo hi:Int)(w:w_):c_ 137 #[i_ x,i_ lo,i_ hi] w fun e w'=>e=.returned (.bool (dw x lo hi))/\w'=w:=by
 by_cases h1:lo<=x;{go_enter Tryz.func137,Tryz.ntmps137;go_wp2;go_ret;exact⟨by simp[dw,h1],rfl⟩};{go_enter Tryz.func137,Tryz.ntmps137;go_wp2;go_ret;exact⟨by simp[dw];omega,rfl⟩}
def oV (n:aj):Bool:=
 decide ((n.name.size:Int)<=40)&&dw n.f 0 100000&&dw n.m 0 250&&dw n.l 0 (if n.e then n.m-1 else n.m)&&decide ((n.s.length:Int)<=250)&&decide ((n.k.length:Int)<=500)
theorem vY (nm:ByteArray)(ln pr:Int)(rs:Bool)(rg:Int)(us:List (Bool×Int))(cs:List cN)(is:List az)(ns:List bB)(a5 a6 a7 a8:o_)(c5 c6 c7 c8:Nat)(w:w_)(QO:nm.size<=9223372036854775807)(hu:us.length<=9223372036854775807)(qI:cs.length<=9223372036854775807) :
  c_ 112 #[.agg #[.string nm,i_ ln,i_ pr,.bool rs,i_ rg,.slice a5 us.length c5,.slice a6 cs.length c6,.slice a7 is.length c7,.slice a8 ns.length c8]] w fun e w'=>e=.returned (.bool (oV ⟨nm,ln,pr,rs,rg,us,cs,is,ns⟩))/\b_ w w':=by
 have dQ:H_ (∀ o1,b_ w (w.alloc o1)):=fun o1=>r_.alloc n_ o1;cases rs
 ·have E:H_ (oV ⟨nm,ln,pr,false,rg,us,cs,is,ns⟩=(decide ((nm.size:Int)<=40)&&dw ln 0 100000&&dw rg 0 250&&dw pr 0 (rg)&&decide ((us.length:Int)<=250)&&decide ((cs.length:Int)<=500))):=rfl;generalize oV ⟨nm,ln,pr,false,rg,us,cs,is,ns⟩=res at *;by_cases q0:(nm.size:Int)<=40
  ·skip;cases q1:dw ln 0 100000
   ·have R:H_ (false=res):=by show _=_;rw[E.o];simp[q1]
    have Q1:=af q1;clear q1;clear E;go_enter Tryz.func112,Tryz.ntmps112;go_wp2_with fail
    refine(ay _ _ _ _).mono ?_;rintro e w' ⟨rfl,rfl⟩;rw[Q1.o];go_wp2;go_ret;refine⟨ak ?_,aa dQ _⟩;first | exact aa R | (rw[<-aa R];simp;omega) | (rw[<-aa R];simp)
   ·have Q1:=af q1;clear q1;cases q2:dw rg 0 250
    ·have R:H_ (false=res):=by show _=_;rw[E.o];simp[q2]
     have Q2:=af q2;clear q2;clear E;go_enter Tryz.func112,Tryz.ntmps112;go_wp2_with fail
     refine(ay _ _ _ _).mono ?_;rintro e w' ⟨rfl,rfl⟩;rw[Q1.o];go_wp2_with fail;refine(ay _ _ _ _).mono ?_;rintro e w' ⟨rfl,rfl⟩;rw[Q2.o];go_wp2;go_ret;refine⟨ak ?_,aa dQ _⟩;first | exact aa R | (rw[<-aa R];simp;omega) | (rw[<-aa R];simp)
    ·have Q2:=af q2;clear q2;have ko:=aU Q2.o;cases q3:dw pr 0 (rg)
     ·have R:H_ (false=res):=by show _=_;rw[E.o];simp[q3]
      have Q3:=af q3;clear q3;clear E;go_enter Tryz.func112,Tryz.ntmps112;go_wp2_with fail
      refine(ay _ _ _ _).mono ?_;rintro e w' ⟨rfl,rfl⟩;rw[Q1.o];go_wp2_with fail;refine(ay _ _ _ _).mono ?_;rintro e w' ⟨rfl,rfl⟩;rw[Q2.o];go_wp2_with fail;refine(ay _ _ _ _).mono ?_;rintro e w' ⟨rfl,rfl⟩;rw[Q3.o];go_wp2;go_ret;refine⟨ak ?_,aa dQ _⟩;first | exact aa R | (rw[<-aa R];simp;omega) | (rw[<-aa R];simp)
     ·have Q3:=af q3;clear q3;by_cases q4:(us.length:Int)<=250
      ·skip;by_cases q5:(cs.length:Int)<=500
       ·skip;have R:H_ (true=res):=by show _=_;rw[E.o];simp[q0,Q1.o,Q2.o,Q3.o,q4,q5]
        clear E;go_enter Tryz.func112,Tryz.ntmps112;go_wp2_with fail
        refine(ay _ _ _ _).mono ?_;rintro e w' ⟨rfl,rfl⟩;rw[Q1.o];go_wp2_with fail;refine(ay _ _ _ _).mono ?_;rintro e w' ⟨rfl,rfl⟩;rw[Q2.o];go_wp2_with fail;refine(ay _ _ _ _).mono ?_;rintro e w' ⟨rfl,rfl⟩;rw[Q3.o];go_wp2;go_ret;refine⟨ak ?_,aa dQ _⟩;first | exact aa R | (rw[<-aa R];simp;omega) | (rw[<-aa R];simp)
       ·have R:H_ (false=res):=by show _=_;rw[E.o];simp[q5]
        clear E;go_enter Tryz.func112,Tryz.ntmps112;go_wp2_with fail
        refine(ay _ _ _ _).mono ?_;rintro e w' ⟨rfl,rfl⟩;rw[Q1.o];go_wp2_with fail;refine(ay _ _ _ _).mono ?_;rintro e w' ⟨rfl,rfl⟩;rw[Q2.o];go_wp2_with fail;refine(ay _ _ _ _).mono ?_;rintro e w' ⟨rfl,rfl⟩;rw[Q3.o];go_wp2;go_ret;refine⟨ak ?_,aa dQ _⟩;first | exact aa R | (rw[<-aa R];simp;omega) | (rw[<-aa R];simp)
      ·have R:H_ (false=res):=by show _=_;rw[E.o];simp[q4]
       clear E;go_enter Tryz.func112,Tryz.ntmps112;go_wp2_with fail
       refine(ay _ _ _ _).mono ?_;rintro e w' ⟨rfl,rfl⟩;rw[Q1.o];go_wp2_with fail;refine(ay _ _ _ _).mono ?_;rintro e w' ⟨rfl,rfl⟩;rw[Q2.o];go_wp2_with fail;refine(ay _ _ _ _).mono ?_;rintro e w' ⟨rfl,rfl⟩;rw[Q3.o];go_wp2;go_ret;refine⟨ak ?_,aa dQ _⟩;first | exact aa R | (rw[<-aa R];simp;omega) | (rw[<-aa R];simp)
  ·have R:H_ (false=res):=by show _=_;rw[E.o];simp[q0]
   clear E;go_enter Tryz.func112,Tryz.ntmps112;go_wp2
   go_ret;refine⟨ak ?_,aa dQ _⟩;first | exact aa R | (rw[<-aa R];simp;omega) | (rw[<-aa R];simp)
 ·have E:H_ (oV ⟨nm,ln,pr,true,rg,us,cs,is,ns⟩=(decide ((nm.size:Int)<=40)&&dw ln 0 100000&&dw rg 0 250&&dw pr 0 (rg-1)&&decide ((us.length:Int)<=250)&&decide ((cs.length:Int)<=500))):=rfl;generalize oV ⟨nm,ln,pr,true,rg,us,cs,is,ns⟩=res at *;by_cases q0:(nm.size:Int)<=40
  ·skip;cases q1:dw ln 0 100000
   ·have R:H_ (false=res):=by show _=_;rw[E.o];simp[q1]
    have Q1:=af q1;clear q1;clear E;go_enter Tryz.func112,Tryz.ntmps112;go_wp2_with fail
    refine(ay _ _ _ _).mono ?_;rintro e w' ⟨rfl,rfl⟩;rw[Q1.o];go_wp2;go_ret;refine⟨ak ?_,aa dQ _⟩;first | exact aa R | (rw[<-aa R];simp;omega) | (rw[<-aa R];simp)
   ·have Q1:=af q1;clear q1;cases q2:dw rg 0 250
    ·have R:H_ (false=res):=by show _=_;rw[E.o];simp[q2]
     have Q2:=af q2;clear q2;clear E;go_enter Tryz.func112,Tryz.ntmps112;go_wp2_with fail
     refine(ay _ _ _ _).mono ?_;rintro e w' ⟨rfl,rfl⟩;rw[Q1.o];go_wp2_with fail;refine(ay _ _ _ _).mono ?_;rintro e w' ⟨rfl,rfl⟩;rw[Q2.o];go_wp2;go_ret;refine⟨ak ?_,aa dQ _⟩;first | exact aa R | (rw[<-aa R];simp;omega) | (rw[<-aa R];simp)
    ·have Q2:=af q2;clear q2;have ko:=aU Q2.o;cases q3:dw pr 0 (rg-1)
     ·have R:H_ (false=res):=by show _=_;rw[E.o];simp[q3]
      have Q3:=af q3;clear q3;clear E;go_enter Tryz.func112,Tryz.ntmps112;go_wp2_with fail
      refine(ay _ _ _ _).mono ?_;rintro e w' ⟨rfl,rfl⟩;rw[Q1.o];go_wp2_with fail;refine(ay _ _ _ _).mono ?_;rintro e w' ⟨rfl,rfl⟩;rw[Q2.o];go_wp2_with fail;refine(ay _ _ _ _).mono ?_;rintro e w' ⟨rfl,rfl⟩;rw[Q3.o];go_wp2;go_ret;refine⟨ak ?_,aa dQ _⟩;first | exact aa R | (rw[<-aa R];simp;omega) | (rw[<-aa R];simp)
     ·have Q3:=af q3;clear q3;by_cases q4:(us.length:Int)<=250
      ·skip;by_cases q5:(cs.length:Int)<=500
       ·skip;have R:H_ (true=res):=by show _=_;rw[E.o];simp[q0,Q1.o,Q2.o,Q3.o,q4,q5]
        clear E;go_enter Tryz.func112,Tryz.ntmps112;go_wp2_with fail
        refine(ay _ _ _ _).mono ?_;rintro e w' ⟨rfl,rfl⟩;rw[Q1.o];go_wp2_with fail;refine(ay _ _ _ _).mono ?_;rintro e w' ⟨rfl,rfl⟩;rw[Q2.o];go_wp2_with fail;refine(ay _ _ _ _).mono ?_;rintro e w' ⟨rfl,rfl⟩;rw[Q3.o];go_wp2;go_ret;refine⟨ak ?_,aa dQ _⟩;first | exact aa R | (rw[<-aa R];simp;omega) | (rw[<-aa R];simp)
       ·have R:H_ (false=res):=by show _=_;rw[E.o];simp[q5]
        clear E;go_enter Tryz.func112,Tryz.ntmps112;go_wp2_with fail
        refine(ay _ _ _ _).mono ?_;rintro e w' ⟨rfl,rfl⟩;rw[Q1.o];go_wp2_with fail;refine(ay _ _ _ _).mono ?_;rintro e w' ⟨rfl,rfl⟩;rw[Q2.o];go_wp2_with fail;refine(ay _ _ _ _).mono ?_;rintro e w' ⟨rfl,rfl⟩;rw[Q3.o];go_wp2;go_ret;refine⟨ak ?_,aa dQ _⟩;first | exact aa R | (rw[<-aa R];simp;omega) | (rw[<-aa R];simp)
      ·have R:H_ (false=res):=by show _=_;rw[E.o];simp[q4]
       clear E;go_enter Tryz.func112,Tryz.ntmps112;go_wp2_with fail
       refine(ay _ _ _ _).mono ?_;rintro e w' ⟨rfl,rfl⟩;rw[Q1.o];go_wp2_with fail;refine(ay _ _ _ _).mono ?_;rintro e w' ⟨rfl,rfl⟩;rw[Q2.o];go_wp2_with fail;refine(ay _ _ _ _).mono ?_;rintro e w' ⟨rfl,rfl⟩;rw[Q3.o];go_wp2;go_ret;refine⟨ak ?_,aa dQ _⟩;first | exact aa R | (rw[<-aa R];simp;omega) | (rw[<-aa R];simp)
  ·have R:H_ (false=res):=by show _=_;rw[E.o];simp[q0]
   clear E;go_enter Tryz.func112,Tryz.ntmps112;go_wp2
   go_ret;refine⟨ak ?_,aa dQ _⟩;first | exact aa R | (rw[<-aa R];simp;omega) | (rw[<-aa R];simp)
def uA (rg:Int)(ni:Nat)(n:bB):Bool:=dw n.name.size 1 40&&dw n.reg 0 (rg-1)&&dw n.fro 0 n.til&&decide (n.til<=ni)
theorem ru (rg:Int)(ni:Nat)(n:bB)(i:Nat):kJ rg ni n i=(decide ((i:Int)<500)&&uA rg ni n):=by
 unfold kJ uA dw;simp only[Bool.and_assoc]
theorem vX (name:ByteArray)(reg fro til:Int)(nm:ByteArray)(ln pr:Int)(rs:Bool)(rg:Int)(us:List (Bool×Int))(cs:List cN)(is:List az)(ns:List bB)(a5 a6 a7 a8:o_)(c5 c6 c7 c8:Nat)(w:w_)(QO:name.size<=9223372036854775807)(jl:is.length<=9223372036854775807)(ko:0<=rg/\rg<=250) :
  c_ 114 #[.agg #[.string name,i_ reg,i_ fro,i_ til],.agg #[.string nm,i_ ln,i_ pr,.bool rs,i_ rg,.slice a5 us.length c5,.slice a6 cs.length c6,.slice a7 is.length c7,.slice a8 ns.length c8]] w fun e w'=>e=.returned (.bool (uA rg is.length ⟨name,reg,fro,til⟩))/\b_ w w':=by
 have dQ:H_ (∀ o1 o2,b_ w ((w.alloc o1).alloc o2)):=fun o1 o2=>(r_.alloc n_ o1).alloc (by simp) o2;obtain⟨qK,vl⟩:=ko;have E:H_ (uA rg is.length ⟨name,reg,fro,til⟩=(dw name.size 1 40&&dw reg 0 (rg-1)&&dw fro 0 til&&decide (til<=is.length))):=rfl;generalize uA rg is.length ⟨name,reg,fro,til⟩=res at *;cases q0:dw name.size 1 40
 ·have R:H_ (false=res):=by show _=_;rw[E.o];simp[q0]
  have Q0:=af q0;clear q0;clear E;go_enter Tryz.func114,Tryz.ntmps114;go_wp2_with fail
  refine(ay _ _ _ _).mono ?_;rintro e w' ⟨rfl,rfl⟩;rw[Q0.o];go_wp2;go_ret;refine⟨ak ?_,aa dQ _ _⟩;first | exact aa R | (rw[<-aa R];simp;omega) | (rw[<-aa R];simp)
 ·have Q0:=af q0;clear q0;cases q1:dw reg 0 (rg-1)
  ·have R:H_ (false=res):=by show _=_;rw[E.o];simp[q1]
   have Q1:=af q1;clear q1;clear E;go_enter Tryz.func114,Tryz.ntmps114;go_wp2_with fail
   refine(ay _ _ _ _).mono ?_;rintro e w' ⟨rfl,rfl⟩;rw[Q0.o];go_wp2_with fail;refine(ay _ _ _ _).mono ?_;rintro e w' ⟨rfl,rfl⟩;rw[Q1.o];go_wp2;go_ret;refine⟨ak ?_,aa dQ _ _⟩;first | exact aa R | (rw[<-aa R];simp;omega) | (rw[<-aa R];simp)
  ·have Q1:=af q1;clear q1;cases q2:dw fro 0 til
   ·have R:H_ (false=res):=by show _=_;rw[E.o];simp[q2]
    have Q2:=af q2;clear q2;clear E;go_enter Tryz.func114,Tryz.ntmps114;go_wp2_with fail
    refine(ay _ _ _ _).mono ?_;rintro e w' ⟨rfl,rfl⟩;rw[Q0.o];go_wp2_with fail;refine(ay _ _ _ _).mono ?_;rintro e w' ⟨rfl,rfl⟩;rw[Q1.o];go_wp2_with fail;refine(ay _ _ _ _).mono ?_;rintro e w' ⟨rfl,rfl⟩;rw[Q2.o];go_wp2;go_ret;refine⟨ak ?_,aa dQ _ _⟩;first | exact aa R | (rw[<-aa R];simp;omega) | (rw[<-aa R];simp)
   ·have Q2:=af q2;clear q2;by_cases q3:til<=is.length
    ·skip;have R:H_ (true=res):=by show _=_;rw[E.o];simp[Q0.o,Q1.o,Q2.o,q3]
     clear E;go_enter Tryz.func114,Tryz.ntmps114;go_wp2_with fail
     refine(ay _ _ _ _).mono ?_;rintro e w' ⟨rfl,rfl⟩;rw[Q0.o];go_wp2_with fail;refine(ay _ _ _ _).mono ?_;rintro e w' ⟨rfl,rfl⟩;rw[Q1.o];go_wp2_with fail;refine(ay _ _ _ _).mono ?_;rintro e w' ⟨rfl,rfl⟩;rw[Q2.o];go_wp2;go_ret;refine⟨ak ?_,aa dQ _ _⟩;first | exact aa R | (rw[<-aa R];simp;omega) | (rw[<-aa R];simp)
    ·have R:H_ (false=res):=by show _=_;rw[E.o];simp[q3]
     clear E;go_enter Tryz.func114,Tryz.ntmps114;go_wp2_with fail
     refine(ay _ _ _ _).mono ?_;rintro e w' ⟨rfl,rfl⟩;rw[Q0.o];go_wp2_with fail;refine(ay _ _ _ _).mono ?_;rintro e w' ⟨rfl,rfl⟩;rw[Q1.o];go_wp2_with fail;refine(ay _ _ _ _).mono ?_;rintro e w' ⟨rfl,rfl⟩;rw[Q2.o];go_wp2;go_ret;refine⟨ak ?_,aa dQ _ _⟩;first | exact aa R | (rw[<-aa R];simp;omega) | (rw[<-aa R];simp)
def eE (op:Int):Bool:=!(op==19||op==29||op==30)
theorem lK (op a b c d:Int)(w:w_):c_ 116 #[.agg #[i_ op,i_ a,i_ b,i_ c,i_ d]] w fun e w'=>e=.returned (.bool (eE op))/\b_ w w':=by
 have dQ:H_ (∀ o1,b_ w (w.alloc o1)):=fun o1=>r_.alloc n_ o1;cases k1:op != 19;{go_enter Tryz.func116,Tryz.ntmps116;go_wp2;go_ret;exact⟨ak (by simp at k1;simp[eE,k1]),aa dQ _⟩};cases k2:op != 29;{go_enter Tryz.func116,Tryz.ntmps116;go_wp2;go_ret;exact⟨ak (by simp at k2;simp[eE,k2]),aa dQ _⟩};{go_enter Tryz.func116,Tryz.ntmps116;go_wp2;go_ret;refine⟨ak ?_,aa dQ _⟩;simp at k1 k2;show(!(op==30))=_;simp[eE,k1,k2]}
theorem JG (x:Nat)(w:w_):(callFunc 152 #[.float .f64 x]).run Tryz.prog w=.ok (.value (.int .u64 x)) w:=by
 rw[run_callFunc_extern Tryz.func152 (by kernel_rfl) (by kernel_rfl) (by kernel_rfl) (e:=Extern.MathFloatBits.float64bits) (by kernel_rfl)];rfl
theorem BY (x:Nat):decide (wrap64 (x:Int)<0)=fH x:=by
 unfold fH wrap64;by_cases c:x / 9223372036854775808 % 2=1;{rw[show(x / 9223372036854775808 % 2==1)=true from by simp[c]];exact zbb (by omega)};{rw[show(x / 9223372036854775808 % 2==1)=false from by simp[c]];exact zba (by omega)}
theorem dx (x:Nat)(w:w_):c_ 136 #[.float .f64 x] w fun e w'=>e=.returned (.bool (fH x))/\w'=w:=by
 have hb:=fun w=>JG x w;go_enter Tryz.func136,Tryz.ntmps136;go_wp2
 go_ret;exact⟨ak (BY x),rfl⟩
theorem qV (x:Nat)(w:w_):c_ 138 #[.float .f64 x] w fun e w'=>e=.returned (.bool (!tL x))/\w'=w:=by
 go_enter Tryz.func138,Tryz.ntmps138;go_wp2;go_ret;exact⟨ak rfl,rfl⟩
def pK (kind:Int)(bn bf bs:Bool)(n:cN):Bool:=
 (if kind=1 then dw n.num 0 1 else if kind=2 then true else if kind=8 then dw n.num 0 14 else bn)&&(if kind=3 then tL n.flt else bf)&&(if kind=4 then decide ((n.str.size:Int)<=4000)else bs)&&n.ref==0
theorem Uw (x:Int):dw x 0 1=(x==0||x==1):=by
 unfold dw;by_cases h0:x=0;{subst h0;rfl};by_cases h1:x=1;{subst h1;rfl};rw[show(x==0)=false from zag.2 h0,show(x==1)=false from zag.2 h1];simp only[Bool.or_self,Bool.and_eq_false_iff,decide_eq_false_iff_not];omega
theorem Us (x:Int):dw x 0 14=(decide (0<=x)&&decide (x<15)):=by
 unfold dw;congr 1;exact decide_eq_decide.2 (by omega)
theorem jS (n:cN)(hk:n.kind=0\/n.kind=1\/n.kind=2\/n.kind=3\/n.kind=4\/n.kind=8):dv n=pK n.kind (n.num==0) (cI n.flt && !fH n.flt) (aY n.str) n:=by
 obtain⟨kind,num,flt,str,ref⟩:=n;have hp:=Jk flt;simp only at hk;unfold dv pK aI eF;simp only;rw[Uw,Us];cases hz:cI flt;{rcases hk with rfl | rfl | rfl | rfl | rfl | rfl<;>simp;all_goals (try (cases num==0<;>cases aY str<;>cases ref==0<;>simp))};{rw[hp hz];rcases hk with rfl | rfl | rfl | rfl | rfl | rfl<;>simp<;>grind}
theorem AY (n:cN)(h0:n.kind≠0)(h1:n.kind≠1)(h2:n.kind≠2)(h3:n.kind≠3)(h4:n.kind≠4)(h8:n.kind≠8):dv n=false:=by
 unfold dv aI;by_cases h5:n.kind=5;{simp[h5]};by_cases h6:n.kind=6;{simp[h6]};by_cases h7:n.kind=7;{simp[h7]};simp[h0,h1,h2,h3,h4,h5,h6,h7,h8]
theorem At (num:Int)(flt:Nat)(str:ByteArray)(ref:Int)(w:w_)(hs:str.size<=9223372036854775807) :
  c_ 113 #[.agg #[i_ 0,i_ num,.float .f64 flt,.string str,i_ ref]] w fun e w'=>e=.returned (.bool (dv ⟨0,num,flt,str,ref⟩))/\b_ w w':=by
 have dD:∀ o,b_ w (w.alloc o):=fun o=>r_.alloc n_ o;have E:H_ (dv ⟨0,num,flt,str,ref⟩=pK 0 (num==0) (cI flt && !fH flt) (aY str) ⟨0,num,flt,str,ref⟩):=jS ⟨0,num,flt,str,ref⟩ (by simp);generalize dv ⟨0,num,flt,str,ref⟩=res at *;have Z:H_ (∀ b,cI flt=b->(FloatKind.f64.format.order flt 0==some Ordering.eq)=b):=fun _ h=>h;simp only[pK]at E;cases fz:cI flt
 ·have vk:=Z.o _ fz;rw[fz]at E;clear Z fz;go_enter Tryz.func113,Tryz.ntmps113;go_wp2_with fail
  go_quiet (fail);go_wp2_with fail;(all_goals go_ret);all_goals exact⟨ak (by rw[E.o];first | (simp_all[aY];done) | (simp_all[aY];intros;omega)),(dD _).trans (ax _ _ _)⟩
 cases sg:fH flt
 ·have vk:=Z.o _ fz;rw[fz,sg]at E;have SG:=af (dx flt);rw[sg]at SG;clear Z fz sg;go_enter Tryz.func113,Tryz.ntmps113;go_wp2_with fail
  go_quiet (first | (go_at_call 136;refine Calls.quiet_of_same (aa SG _)));go_wp2_with fail;(all_goals go_ret);all_goals exact⟨ak (by rw[E.o];first | (simp_all[aY];done) | (simp_all[aY];intros;omega)),(dD _).trans (ax _ _ _)⟩
 ·have vk:=Z.o _ fz;rw[fz,sg]at E;have SG:=af (dx flt);rw[sg]at SG;clear Z fz sg;go_enter Tryz.func113,Tryz.ntmps113;go_wp2_with fail
  go_quiet (first | (go_at_call 136;refine Calls.quiet_of_same (aa SG _)));go_wp2_with fail;(all_goals go_ret);all_goals exact⟨ak (by rw[E.o];first | (simp_all[aY];done) | (simp_all[aY];intros;omega)),(dD _).trans (ax _ _ _)⟩
theorem Ar (num:Int)(flt:Nat)(str:ByteArray)(ref:Int)(w:w_)(hs:str.size<=9223372036854775807) :
  c_ 113 #[.agg #[i_ 1,i_ num,.float .f64 flt,.string str,i_ ref]] w fun e w'=>e=.returned (.bool (dv ⟨1,num,flt,str,ref⟩))/\b_ w w':=by
 have dD:∀ o,b_ w (w.alloc o):=fun o=>r_.alloc n_ o;have E:H_ (dv ⟨1,num,flt,str,ref⟩=pK 1 (num==0) (cI flt && !fH flt) (aY str) ⟨1,num,flt,str,ref⟩):=jS ⟨1,num,flt,str,ref⟩ (by simp);generalize dv ⟨1,num,flt,str,ref⟩=res at *;have Z:H_ (∀ b,cI flt=b->(FloatKind.f64.format.order flt 0==some Ordering.eq)=b):=fun _ h=>h;simp only[pK]at E;cases fz:cI flt
 ·have vk:=Z.o _ fz;rw[fz]at E;clear Z fz;go_enter Tryz.func113,Tryz.ntmps113;go_wp2_with fail
  go_quiet (fail);go_wp2_with fail;(all_goals (refine(gH _ _ _ _).mono ?_;rintro e w' ⟨rfl,rfl⟩));(all_goals go_wp2_with fail);(all_goals go_ret);all_goals exact⟨ak (by rw[E.o];first | (simp_all[aY];done) | (simp_all[aY];intros;omega)),(dD _).trans (ax _ _ _)⟩
 cases sg:fH flt
 ·have vk:=Z.o _ fz;rw[fz,sg]at E;have SG:=af (dx flt);rw[sg]at SG;clear Z fz sg;go_enter Tryz.func113,Tryz.ntmps113;go_wp2_with fail
  go_quiet (first | (go_at_call 136;refine Calls.quiet_of_same (aa SG _)));go_wp2_with fail;(all_goals (refine(gH _ _ _ _).mono ?_;rintro e w' ⟨rfl,rfl⟩));(all_goals go_wp2_with fail);(all_goals go_ret);all_goals exact⟨ak (by rw[E.o];first | (simp_all[aY];done) | (simp_all[aY];intros;omega)),(dD _).trans (ax _ _ _)⟩
 ·have vk:=Z.o _ fz;rw[fz,sg]at E;have SG:=af (dx flt);rw[sg]at SG;clear Z fz sg;go_enter Tryz.func113,Tryz.ntmps113;go_wp2_with fail
  go_quiet (first | (go_at_call 136;refine Calls.quiet_of_same (aa SG _)));go_wp2_with fail;(all_goals (refine(gH _ _ _ _).mono ?_;rintro e w' ⟨rfl,rfl⟩));(all_goals go_wp2_with fail);(all_goals go_ret);all_goals exact⟨ak (by rw[E.o];first | (simp_all[aY];done) | (simp_all[aY];intros;omega)),(dD _).trans (ax _ _ _)⟩
theorem AC (num:Int)(flt:Nat)(str:ByteArray)(ref:Int)(w:w_)(hs:str.size<=9223372036854775807) :
  c_ 113 #[.agg #[i_ 2,i_ num,.float .f64 flt,.string str,i_ ref]] w fun e w'=>e=.returned (.bool (dv ⟨2,num,flt,str,ref⟩))/\b_ w w':=by
 have dD:∀ o,b_ w (w.alloc o):=fun o=>r_.alloc n_ o;have E:H_ (dv ⟨2,num,flt,str,ref⟩=pK 2 (num==0) (cI flt && !fH flt) (aY str) ⟨2,num,flt,str,ref⟩):=jS ⟨2,num,flt,str,ref⟩ (by simp);generalize dv ⟨2,num,flt,str,ref⟩=res at *;have Z:H_ (∀ b,cI flt=b->(FloatKind.f64.format.order flt 0==some Ordering.eq)=b):=fun _ h=>h;simp only[pK]at E;cases fz:cI flt
 ·have vk:=Z.o _ fz;rw[fz]at E;clear Z fz;go_enter Tryz.func113,Tryz.ntmps113;go_wp2_with fail
  go_quiet (fail);go_wp2_with fail;(all_goals go_ret);all_goals exact⟨ak (by rw[E.o];first | (simp_all[aY];done) | (simp_all[aY];intros;omega)),(dD _).trans (ax _ _ _)⟩
 cases sg:fH flt
 ·have vk:=Z.o _ fz;rw[fz,sg]at E;have SG:=af (dx flt);rw[sg]at SG;clear Z fz sg;go_enter Tryz.func113,Tryz.ntmps113;go_wp2_with fail
  go_quiet (first | (go_at_call 136;refine Calls.quiet_of_same (aa SG _)));go_wp2_with fail;(all_goals go_ret);all_goals exact⟨ak (by rw[E.o];first | (simp_all[aY];done) | (simp_all[aY];intros;omega)),(dD _).trans (ax _ _ _)⟩
 ·have vk:=Z.o _ fz;rw[fz,sg]at E;have SG:=af (dx flt);rw[sg]at SG;clear Z fz sg;go_enter Tryz.func113,Tryz.ntmps113;go_wp2_with fail
  go_quiet (first | (go_at_call 136;refine Calls.quiet_of_same (aa SG _)));go_wp2_with fail;(all_goals go_ret);all_goals exact⟨ak (by rw[E.o];first | (simp_all[aY];done) | (simp_all[aY];intros;omega)),(dD _).trans (ax _ _ _)⟩
theorem zT (num:Int)(flt:Nat)(str:ByteArray)(ref:Int)(w:w_)(hs:str.size<=9223372036854775807) :
  c_ 113 #[.agg #[i_ 3,i_ num,.float .f64 flt,.string str,i_ ref]] w fun e w'=>e=.returned (.bool (dv ⟨3,num,flt,str,ref⟩))/\b_ w w':=by
 have dD:∀ o,b_ w (w.alloc o):=fun o=>r_.alloc n_ o;have E:H_ (dv ⟨3,num,flt,str,ref⟩=pK 3 (num==0) (cI flt && !fH flt) (aY str) ⟨3,num,flt,str,ref⟩):=jS ⟨3,num,flt,str,ref⟩ (by simp);generalize dv ⟨3,num,flt,str,ref⟩=res at *;have Z:H_ (∀ b,cI flt=b->(FloatKind.f64.format.order flt 0==some Ordering.eq)=b):=fun _ h=>h;simp only[pK]at E;cases fz:cI flt
 ·have vk:=Z.o _ fz;rw[fz]at E;clear Z fz;go_enter Tryz.func113,Tryz.ntmps113;go_wp2_with fail
  go_quiet (fail);go_wp2_with fail;(all_goals (refine(qV _ _).mono ?_;rintro e w' ⟨rfl,rfl⟩));(all_goals go_wp2_with fail);(all_goals go_ret);all_goals exact⟨ak (by rw[E.o];first | (simp_all[aY];done) | (simp_all[aY];intros;omega)),(dD _).trans (ax _ _ _)⟩
 cases sg:fH flt
 ·have vk:=Z.o _ fz;rw[fz,sg]at E;have SG:=af (dx flt);rw[sg]at SG;clear Z fz sg;go_enter Tryz.func113,Tryz.ntmps113;go_wp2_with fail
  go_quiet (first | (go_at_call 136;refine Calls.quiet_of_same (aa SG _)));go_wp2_with fail;(all_goals (refine(qV _ _).mono ?_;rintro e w' ⟨rfl,rfl⟩));(all_goals go_wp2_with fail);(all_goals go_ret);all_goals exact⟨ak (by rw[E.o];first | (simp_all[aY];done) | (simp_all[aY];intros;omega)),(dD _).trans (ax _ _ _)⟩
 ·have vk:=Z.o _ fz;rw[fz,sg]at E;have SG:=af (dx flt);rw[sg]at SG;clear Z fz sg;go_enter Tryz.func113,Tryz.ntmps113;go_wp2_with fail
  go_quiet (first | (go_at_call 136;refine Calls.quiet_of_same (aa SG _)));go_wp2_with fail;(all_goals (refine(qV _ _).mono ?_;rintro e w' ⟨rfl,rfl⟩));(all_goals go_wp2_with fail);(all_goals go_ret);all_goals exact⟨ak (by rw[E.o];first | (simp_all[aY];done) | (simp_all[aY];intros;omega)),(dD _).trans (ax _ _ _)⟩
theorem AT (num:Int)(flt:Nat)(str:ByteArray)(ref:Int)(w:w_)(hs:str.size<=9223372036854775807) :
  c_ 113 #[.agg #[i_ 4,i_ num,.float .f64 flt,.string str,i_ ref]] w fun e w'=>e=.returned (.bool (dv ⟨4,num,flt,str,ref⟩))/\b_ w w':=by
 have dD:∀ o,b_ w (w.alloc o):=fun o=>r_.alloc n_ o;have E:H_ (dv ⟨4,num,flt,str,ref⟩=pK 4 (num==0) (cI flt && !fH flt) (aY str) ⟨4,num,flt,str,ref⟩):=jS ⟨4,num,flt,str,ref⟩ (by simp);generalize dv ⟨4,num,flt,str,ref⟩=res at *;have Z:H_ (∀ b,cI flt=b->(FloatKind.f64.format.order flt 0==some Ordering.eq)=b):=fun _ h=>h;simp only[pK]at E;cases fz:cI flt
 ·have vk:=Z.o _ fz;rw[fz]at E;clear Z fz;go_enter Tryz.func113,Tryz.ntmps113;go_wp2_with fail
  go_quiet (fail);go_wp2_with fail;(all_goals go_ret);all_goals exact⟨ak (by rw[E.o];first | (simp_all[aY];done) | (simp_all[aY];intros;omega)),(dD _).trans (ax _ _ _)⟩
 cases sg:fH flt
 ·have vk:=Z.o _ fz;rw[fz,sg]at E;have SG:=af (dx flt);rw[sg]at SG;clear Z fz sg;go_enter Tryz.func113,Tryz.ntmps113;go_wp2_with fail
  go_quiet (first | (go_at_call 136;refine Calls.quiet_of_same (aa SG _)));go_wp2_with fail;(all_goals go_ret);all_goals exact⟨ak (by rw[E.o];first | (simp_all[aY];done) | (simp_all[aY];intros;omega)),(dD _).trans (ax _ _ _)⟩
 ·have vk:=Z.o _ fz;rw[fz,sg]at E;have SG:=af (dx flt);rw[sg]at SG;clear Z fz sg;go_enter Tryz.func113,Tryz.ntmps113;go_wp2_with fail
  go_quiet (first | (go_at_call 136;refine Calls.quiet_of_same (aa SG _)));go_wp2_with fail;(all_goals go_ret);all_goals exact⟨ak (by rw[E.o];first | (simp_all[aY];done) | (simp_all[aY];intros;omega)),(dD _).trans (ax _ _ _)⟩
theorem zn (num:Int)(flt:Nat)(str:ByteArray)(ref:Int)(w:w_)(hs:str.size<=9223372036854775807) :
  c_ 113 #[.agg #[i_ 8,i_ num,.float .f64 flt,.string str,i_ ref]] w fun e w'=>e=.returned (.bool (dv ⟨8,num,flt,str,ref⟩))/\b_ w w':=by
 have dD:∀ o,b_ w (w.alloc o):=fun o=>r_.alloc n_ o;have E:H_ (dv ⟨8,num,flt,str,ref⟩=pK 8 (num==0) (cI flt && !fH flt) (aY str) ⟨8,num,flt,str,ref⟩):=jS ⟨8,num,flt,str,ref⟩ (by simp);generalize dv ⟨8,num,flt,str,ref⟩=res at *;have Z:H_ (∀ b,cI flt=b->(FloatKind.f64.format.order flt 0==some Ordering.eq)=b):=fun _ h=>h;simp only[pK]at E;cases fz:cI flt
 ·have vk:=Z.o _ fz;rw[fz]at E;clear Z fz;go_enter Tryz.func113,Tryz.ntmps113;go_wp2_with fail
  go_quiet (fail);go_wp2_with fail;(all_goals (refine(gH _ _ _ _).mono ?_;rintro e w' ⟨rfl,rfl⟩));(all_goals go_wp2_with fail);(all_goals go_ret);all_goals exact⟨ak (by rw[E.o];first | (simp_all[aY];done) | (simp_all[aY];intros;omega)),(dD _).trans (ax _ _ _)⟩
 cases sg:fH flt
 ·have vk:=Z.o _ fz;rw[fz,sg]at E;have SG:=af (dx flt);rw[sg]at SG;clear Z fz sg;go_enter Tryz.func113,Tryz.ntmps113;go_wp2_with fail
  go_quiet (first | (go_at_call 136;refine Calls.quiet_of_same (aa SG _)));go_wp2_with fail;(all_goals (refine(gH _ _ _ _).mono ?_;rintro e w' ⟨rfl,rfl⟩));(all_goals go_wp2_with fail);(all_goals go_ret);all_goals exact⟨ak (by rw[E.o];first | (simp_all[aY];done) | (simp_all[aY];intros;omega)),(dD _).trans (ax _ _ _)⟩
 ·have vk:=Z.o _ fz;rw[fz,sg]at E;have SG:=af (dx flt);rw[sg]at SG;clear Z fz sg;go_enter Tryz.func113,Tryz.ntmps113;go_wp2_with fail
  go_quiet (first | (go_at_call 136;refine Calls.quiet_of_same (aa SG _)));go_wp2_with fail;(all_goals (refine(gH _ _ _ _).mono ?_;rintro e w' ⟨rfl,rfl⟩));(all_goals go_wp2_with fail);(all_goals go_ret);all_goals exact⟨ak (by rw[E.o];first | (simp_all[aY];done) | (simp_all[aY];intros;omega)),(dD _).trans (ax _ _ _)⟩
theorem ue (kind num:Int)(flt:Nat)(str:ByteArray)(ref:Int)(w:w_)(h0:(kind==0)=false)(h1:(kind==1)=false)(h2:(kind==2)=false)(h3:(kind==3)=false)(h4:(kind==4)=false)(h8:(kind==8)=false) :
  c_ 113 #[.agg #[i_ kind,i_ num,.float .f64 flt,.string str,i_ ref]] w fun e w'=>e=.returned (.bool false)/\b_ w w':=by
 have dD:∀ o,b_ w (w.alloc o):=fun o=>r_.alloc n_ o;have Z:H_ (∀ b,cI flt=b->(FloatKind.f64.format.order flt 0==some Ordering.eq)=b):=fun _ h=>h;cases fz:cI flt
 ·have vk:=Z.o _ fz;clear Z fz;go_enter Tryz.func113,Tryz.ntmps113;go_wp2_with fail
  go_quiet (fail);go_wp2;go_ret;exact⟨rfl,(dD _).trans (ax _ _ _)⟩
 cases sg:fH flt
 ·have vk:=Z.o _ fz;have SG:=af (dx flt);rw[sg]at SG;clear Z fz sg;go_enter Tryz.func113,Tryz.ntmps113;go_wp2_with fail
  go_quiet (first | (go_at_call 136;refine Calls.quiet_of_same (aa SG _)));go_wp2;go_ret;exact⟨rfl,(dD _).trans (ax _ _ _)⟩
 ·have vk:=Z.o _ fz;have SG:=af (dx flt);rw[sg]at SG;clear Z fz sg;go_enter Tryz.func113,Tryz.ntmps113;go_wp2_with fail
  go_quiet (first | (go_at_call 136;refine Calls.quiet_of_same (aa SG _)));go_wp2;go_ret;exact⟨rfl,(dD _).trans (ax _ _ _)⟩
theorem vw (n:cN)(w:w_)(hs:n.str.size<=9223372036854775807):c_ 113 #[.agg #[i_ n.kind,i_ n.num,.float .f64 n.flt,.string n.str,i_ n.ref]] w fun e w'=>e=.returned (.bool (dv n))/\b_ w w':=by
 obtain⟨kind,num,flt,str,ref⟩:=n;simp only at *;by_cases h0:kind=0;{subst h0;exact At num flt str ref w hs};by_cases h1:kind=1;{subst h1;exact Ar num flt str ref w hs};by_cases h2:kind=2;{subst h2;exact AC num flt str ref w hs};by_cases h3:kind=3;{subst h3;exact zT num flt str ref w hs};by_cases h4:kind=4;{subst h4;exact AT num flt str ref w hs};by_cases h8:kind=8;{subst h8;exact zn num flt str ref w hs};rw[AY ⟨kind,num,flt,str,ref⟩ h0 h1 h2 h3 h4 h8];exact ue kind num flt str ref w (zag.2 h0) (zag.2 h1) (zag.2 h2) (zag.2 h3) (zag.2 h4) (zag.2 h8)
def Qb:List (List Nat):=[[0,0,0,0],[1,0,0,0],[2,0,0,0],[0,0,0,0],[20,3,0,0],[20,12,0,0],[21,12,0,0],[20,15,0,0],[15,12,0,0],[20,4,0,0],[4,12,0,0],[20,5,0,0],[20,0,0,0],[14,12,12,0],[14,12,13,0],[20,12,12,0],[12,12,12,0],[20,7,12,0],[20,8,12,12],[6,0,0,0],[12,6,0,0],[12,6,0,0],[22,0,0,0],[16,12,0,0],[16,13,0,0],[20,13,0,0],[20,16,11,0],[22,16,0,0],[22,12,13,0],[13,0,0,0],[12,0,0,0],[6,10,0,0],[0,0,0,0],[9,0,0,0],[9,0,0,0],[12,13,0,0],[0,0,0,0],[18,0,0,0],[18,6,0,0],[18,6,0,0],[19,0,0,0],[17,6,22,0],[23,0,0,0]]
def aA (op k:Nat):Nat:=(Qb[op]?.getD [])[k]?.getD 0
def iy (r:Nat):Nat:=([0,11,12,7,8,9,10,15,16,13,14,17,2,3,4,5,6,20,18,19,1,1,1,21]:List Nat)[r]?.getD 0
theorem fF:∀ op,op<43->∀ k,k<4->aA op k<=23:=by decide
theorem kW:∀ op:Nat,op<43->op≠0->bh (op:Int)=some [iy (aA op 0),iy (aA op 1),iy (aA op 2),iy (aA op 3)]:=by decide +kernel
theorem ny {op:Int}(h:¬(1<=op/\op<=42)):bh op=none:=by
 have key:∀(t:List (Int×List Nat)),(∀ p,p∈t->1<=p.1/\p.1<=42)->uI op t=none:=by
  intro t
  induction t with
  | nil=>intro _;rfl
  | cons p t ih=>
   intro hp;obtain⟨k,q⟩:=p;unfold uI;rw[zcb (fun e=>h (by have:=hp (k,q) (by simp);simp only at this;omega))];exact ih (fun p hq=>hp p (List.mem_cons_of_mem _ hq))
 exact key xP (by decide)
def gd (w:w_):Prop:=∃ cs t fr,w.heap[0]? = some (.cells cs t fr)/\cs.size=172/\∀ i,i<43->∀ j,j<4->cs[i * 4+j]? = some (i_ (aA i j:Nat))
theorem gd.keep {w w':w_}{B:Nat}(h:gd w)(hb:Below B w w')(hB:0<B):gd w':=by
 obtain⟨cs,t,fr,h1,h2⟩:=h;exact⟨cs,t,fr,(hb.block 0 hB).trans h1,h2⟩
theorem gd.pos {w:w_}(h:gd w):0<w.heap.size:=by
 obtain⟨cs,t,fr,h1,h2⟩:=h;exact(zbc.1 h1).1
theorem gd.cell {w:w_}(h:gd w){i j:Nat}(hi:i<43)(hj:j<4):w.cell? (a_ 0 (i * 4+j))=some (i_ (aA i j:Nat)):=by
 obtain⟨cs,t,fr,h1,h2,h3⟩:=h;simp[World.cell?,h1,h3 i hi j hj]
theorem mf (op:Nat)(a b c d:Int)(w:w_)(hG:gd w)(fm:op<43) :
  c_ 128 #[.agg #[i_ op,i_ a,i_ b,i_ c,i_ d]] w fun e w'=>e=.returned (.agg #[i_ (aA op 0:Nat),i_ a,i_ (aA op 1:Nat),i_ b,i_ (aA op 2:Nat),i_ c,i_ (aA op 3:Nat),i_ d])/\b_ w w':=by
 have hp:=hG.pos;have Ok:0<w.heap.size:=by omega
 have r0:w.cell? (a_ 0 (op * 4))=some (i_ (aA op 0:Nat)):=hG.cell fm (j:=0) (by omega);have r1:=hG.cell fm (j:=1) (by omega);have r2:=hG.cell fm (j:=2) (by omega);have r3:=hG.cell fm (j:=3) (by omega);clear hG;generalize aA op 0=R0 at *;generalize aA op 1=R1 at *;generalize aA op 2=R2 at *;generalize aA op 3=R3 at *;go_enter Tryz.func128,Tryz.ntmps128;go_wp2_with fail
 refine zcd (v:=.agg #[i_ R0,i_ a,i_ R1,i_ b,i_ R2,i_ c,i_ R3,i_ d]) (by simp[results,Tryz.results128,go_sem]) rfl ⟨rfl,?_⟩;exact((r_.alloc n_ _).alloc (by simp) _).alloc (by simp;omega) _
theorem Qo (x:Int)(np:Nat)(nm:ByteArray)(ln pr:Int)(rs:Bool)(rg:Int)(us:List (Bool×Int))(cs:List cN)(is:List az)(ns:List bB)(a5 a6 a7 a8:o_)(c5 c6 c7 c8:Nat)(w:w_)(hu:us.length<=9223372036854775807)(qI:cs.length<=9223372036854775807)(jl:is.length<=9223372036854775807)(hnp:np<=9223372036854775807)(ko:0<=rg/\rg<=250) :
  c_ 139 #[.agg #[i_ 0,i_ x],.agg #[.string nm,i_ ln,i_ pr,.bool rs,i_ rg,.slice a5 us.length c5,.slice a6 cs.length c6,.slice a7 is.length c7,.slice a8 ns.length c8],i_ np] w fun e w'=>e=.returned (.bool (dh ⟨nm,ln,pr,rs,rg,us,cs,is,ns⟩ np x 0))/\b_ w w':=by
 have dQ:H_ (∀ o1 o2,b_ w ((w.alloc o1).alloc o2)):=fun o1 o2=>(r_.alloc n_ o1).alloc (by simp) o2;obtain⟨qK,vl⟩:=ko;have R:H_ (dh ⟨nm,ln,pr,rs,rg,us,cs,is,ns⟩ np x 0=(x==0)):=rfl;generalize dh ⟨nm,ln,pr,rs,rg,us,cs,is,ns⟩ np x 0=res at *;go_enter Tryz.func139,Tryz.ntmps139;go_wp2
 go_ret;exact⟨ak (R.o.symm),aa dQ _ _⟩
theorem ql (r:Nat)(hr:r<=23)(x:Int)(np:Nat)(nm:ByteArray)(ln pr:Int)(rs:Bool)(rg:Int)(us:List (Bool×Int))(cs:List cN)(is:List az)(ns:List bB)(a5 a6 a7 a8:o_)(c5 c6 c7 c8:Nat)(w:w_)(hu:us.length<=9223372036854775807)(qI:cs.length<=9223372036854775807)(jl:is.length<=9223372036854775807)(hnp:np<=9223372036854775807)(ko:0<=rg/\rg<=250) :
  c_ 139 #[.agg #[i_ r,i_ x],.agg #[.string nm,i_ ln,i_ pr,.bool rs,i_ rg,.slice a5 us.length c5,.slice a6 cs.length c6,.slice a7 is.length c7,.slice a8 ns.length c8],i_ np] w fun e w'=>e=.returned (.bool (dh ⟨nm,ln,pr,rs,rg,us,cs,is,ns⟩ np x (iy r)))/\b_ w w':=by
 by_cases h0:r=0;{subst h0;exact Qo x np nm ln pr rs rg us cs is ns a5 a6 a7 a8 c5 c6 c7 c8 w hu qI jl hnp ko}
 have dQ:H_ (∀ o1 o2,b_ w ((w.alloc o1).alloc o2)):=fun o1 o2=>(r_.alloc n_ o1).alloc (by simp) o2;obtain⟨qK,vl⟩:=ko;obtain⟨res,yR⟩:∃ res,dh ⟨nm,ln,pr,rs,rg,us,cs,is,ns⟩ np x (iy r)=res:=⟨_,rfl⟩;rw[yR];have R:=af yR;have hc:r=1\/r=2\/r=3\/r=4\/r=5\/r=6\/r=7\/r=8\/r=9\/r=10\/r=11\/r=12\/r=13\/r=14\/r=15\/r=16\/r=17\/r=18\/r=19\/r=20\/r=21\/r=22\/r=23:=by omega
 clear yR hr h0;rcases hc with rfl | rfl | rfl | rfl | rfl | rfl | rfl | rfl | rfl | rfl | rfl | rfl | rfl | rfl | rfl | rfl | rfl | rfl | rfl | rfl | rfl | rfl | rfl;all_goals go_enter Tryz.func139,Tryz.ntmps139;go_wp2_with fail;refine(ay _ _ _ _).mono ?_;rintro e w' ⟨rfl,rfl⟩;go_wp2;go_ret;exact⟨ak (aa R),aa dQ _ _⟩
end Go.Proofs.YtcjfjflljdojlaaGreatDoor

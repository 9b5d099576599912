import Derived.Test.YtcjfjflljdojlaaGreatDoorPart04
import Derived.BigQuiet
set_option linter.unusedSimpArgs false
set_option linter.unusedVariables false
set_option maxHeartbeats 4000000
set_option maxRecDepth 100000
namespace Go.Proofs.YtcjfjflljdojlaaGreatDoor
open Go.RowKit
theorem al {a b:Bool}(h:a=b):Ending.returned (.bool a)=.returned (.bool b):=by rw[h]
def dw (x lo hi:Int):Bool:=decide (lo<=x)&&decide (x<=hi)
theorem aV {x lo hi:Int}(h:dw x lo hi=true):lo<=x/\x<=hi:=by
 unfold dw at h;rw[Bool.and_eq_true]at h;exact⟨of_decide_eq_true h.1,of_decide_eq_true h.2⟩
theorem aB (x lo hi:Int)(w:World):c_ 101 #[i_ x,i_ lo,i_ hi] w fun e w'=>e=.returned (.bool (dw x lo hi))/\w'=w:=by
 by_cases h1:lo<=x
 ·go_enter Tryz.func101,Tryz.ntmps101
  go_wp2
  go_ret;exact⟨by simp[dw,h1],rfl⟩
 ·go_enter Tryz.func101,Tryz.ntmps101
  go_wp2
  go_ret;exact⟨by simp[dw];omega,rfl⟩
theorem cV (c p i:Int)(w:World):c_ 55 #[i_ c,i_ p,i_ i] w fun e w'=>e=.returned (.agg #[i_ c,i_ p,i_ i])/\b_ w w':=by
 go_enter Tryz.func55,Tryz.ntmps55;go_wp2_with fail
 exact bodyPost_ret (v:=.agg #[i_ c,i_ p,i_ i]) (by simp[results,Tryz.results55,go_sem]) rfl ⟨rfl,by repeat (first | refine Below.alloc ?_ (by simp<;>omega) _ | exact r_)⟩
def kJ (rg:Int)(ni:Nat)(n:bE)(i:Nat):Bool:=
 decide ((i:Int)<500)&&dw n.name.size 1 40&&dw n.reg 0 (rg-1)&&decide (0<=n.fro)&&decide (n.fro<=n.til)&&decide (n.til<=ni)
theorem vr (nm:ByteArray)(ln pr:Int)(rs:Bool)(rg:Int)(us:List (Bool×Int))(cs:List cS)(is:List aA)(ns:List bE)(a5 a6 a7 a8:o_)(c5 c6 c7 c8:Nat)(i:Nat)(S:Nat->Prop)(w:World)(h8:dc w S a8 ns)(hB:∀ b,S b->b<w.heap.size)(hi:i<ns.length)(ko:0<=rg/\rg<=250)(jn:is.length<=9223372036854775807) :
  c_ 99 #[.agg #[.string nm,i_ ln,i_ pr,.bool rs,i_ rg,.slice a5 us.length c5,.slice a6 cs.length c6,.slice a7 is.length c7,.slice a8 ns.length c8],i_ i] w fun e w'=>e=.returned (.bool (kJ rg is.length (ns[i]?.getD bE.z) i))/\b_ w w':=by
 have hn:=h8.1;obtain⟨b,off,rfl,hb,aE⟩:=h8.2 (by omega);have N:=aE i hi;have cZ:=hB b hb;clear aE h8 hB;have dR:Hid (∀ o1 o2,b_ w ((w.alloc o1).alloc o2)):=fun o1 o2=>(r_.alloc n_ o1).alloc (by simp) o2;obtain⟨qK,vj⟩:=ko;generalize ns[i]?.getD bE.z=n at *;have c0:=N.name;have c1:=N.reg;have c2:=N.fro;have c3:=N.til;have RZ:=N.names;clear N;obtain⟨name,reg,fro,til⟩:=n;simp only at *;have E:Hid (kJ rg is.length ⟨name,reg,fro,til⟩ i=(decide ((i:Int)<500)&&dw name.size 1 40&&dw reg 0 (rg-1)&&decide (0<=fro)&&decide (fro<=til)&&decide (til<=is.length))):=rfl;generalize kJ rg is.length ⟨name,reg,fro,til⟩ i=res at *;by_cases q0:(i:Int)<500
 ·skip
  cases q1:dw name.size 1 40
  ·have R:Hid (false=res):=by show _=_;rw[E.out];simp[q1]
   have Q1:=af q1;clear q1;clear E;go_enter Tryz.func99,Tryz.ntmps99;go_wp2_with fail
   refine(aB _ _ _ _).mono ?_;rintro e w' ⟨rfl,rfl⟩;rw[Q1.out];go_wp2_with fail
   go_ret;refine⟨al ?_,aa dR _ _⟩
   first | exact aa R | (rw[<-aa R];simp;omega)
  ·have Q1:=af q1;clear q1;cases q2:dw reg 0 (rg-1)
   ·have R:Hid (false=res):=by show _=_;rw[E.out];simp[q2]
    have Q2:=af q2;clear q2;clear E;go_enter Tryz.func99,Tryz.ntmps99;go_wp2_with fail
    refine(aB _ _ _ _).mono ?_;rintro e w' ⟨rfl,rfl⟩;rw[Q1.out];go_wp2_with fail
    refine(aB _ _ _ _).mono ?_;rintro e w' ⟨rfl,rfl⟩;rw[Q2.out];go_wp2_with fail
    go_ret;refine⟨al ?_,aa dR _ _⟩
    first | exact aa R | (rw[<-aa R];simp;omega)
   ·have Q2:=af q2;clear q2;by_cases q3:0<=fro
    ·skip
     by_cases q4:fro<=til
     ·skip
      by_cases q5:til<=is.length
      ·skip
       have R:Hid (true=res):=by show _=_;rw[E.out];simp[q0,Q1.out,Q2.out,q3,q4,q5]
       clear E;go_enter Tryz.func99,Tryz.ntmps99;go_wp2_with fail
       refine(aB _ _ _ _).mono ?_;rintro e w' ⟨rfl,rfl⟩;rw[Q1.out];go_wp2_with fail
       refine(aB _ _ _ _).mono ?_;rintro e w' ⟨rfl,rfl⟩;rw[Q2.out];go_wp2_with fail
       go_ret;refine⟨al ?_,aa dR _ _⟩
       first | exact aa R | (rw[<-aa R];simp;omega)
      ·have R:Hid (false=res):=by show _=_;rw[E.out];simp[q5]
       clear E;go_enter Tryz.func99,Tryz.ntmps99;go_wp2_with fail
       refine(aB _ _ _ _).mono ?_;rintro e w' ⟨rfl,rfl⟩;rw[Q1.out];go_wp2_with fail
       refine(aB _ _ _ _).mono ?_;rintro e w' ⟨rfl,rfl⟩;rw[Q2.out];go_wp2_with fail
       go_ret;refine⟨al ?_,aa dR _ _⟩
       first | exact aa R | (rw[<-aa R];simp;omega)
     ·have R:Hid (false=res):=by show _=_;rw[E.out];simp[q4]
      clear E;go_enter Tryz.func99,Tryz.ntmps99;go_wp2_with fail
      refine(aB _ _ _ _).mono ?_;rintro e w' ⟨rfl,rfl⟩;rw[Q1.out];go_wp2_with fail
      refine(aB _ _ _ _).mono ?_;rintro e w' ⟨rfl,rfl⟩;rw[Q2.out];go_wp2_with fail
      go_ret;refine⟨al ?_,aa dR _ _⟩
      first | exact aa R | (rw[<-aa R];simp;omega)
    ·have R:Hid (false=res):=by show _=_;rw[E.out];simp[q3]
     clear E;go_enter Tryz.func99,Tryz.ntmps99;go_wp2_with fail
     refine(aB _ _ _ _).mono ?_;rintro e w' ⟨rfl,rfl⟩;rw[Q1.out];go_wp2_with fail
     refine(aB _ _ _ _).mono ?_;rintro e w' ⟨rfl,rfl⟩;rw[Q2.out];go_wp2_with fail
     go_ret;refine⟨al ?_,aa dR _ _⟩
     first | exact aa R | (rw[<-aa R];simp;omega)
 ·have R:Hid (false=res):=by show _=_;rw[E.out];simp[q0]
  clear E;go_enter Tryz.func99,Tryz.ntmps99;go_wp2_with fail
  go_ret;refine⟨al ?_,aa dR _ _⟩
  first | exact aa R | (rw[<-aa R];simp;omega)
def am (l:List ak)(p:Nat):ak:=l[p]?.getD ak.z
def ee (n:ak)(p:Nat):Bool:=
 decide ((n.name.size:Int)<=40)&&dw n.line 0 100000&&dw n.regs 0 250&&dw n.params 0 (if n.rest then n.regs-1 else n.regs)&&decide ((n.ups.length:Int)<=250)&&decide ((n.consts.length:Int)<=500)&&(decide (0<p)||(n.params==0&&n.ups.length==0))
theorem yl (a:o_)(l:List ak)(c p:Nat)(S:Nat->Prop)(w:World)(hs:ao w S a l)(hB:∀ b,S b->b<w.heap.size)(hp:p<l.length) :
  c_ 97 #[.agg #[.slice a l.length c],i_ p] w fun e w'=>e=.returned (.bool (ee (am l p) p))/\b_ w w':=by
 have hn:=hs.1;obtain⟨b,off,rfl,hb,aE⟩:=hs.2 (by omega);have N:aU w S b (off+p * 9) (am l p):=aE p hp;have cZ:=hB b hb;clear aE hs hB;have dR:Hid (∀ o1 o2,b_ w ((w.alloc o1).alloc o2)):=fun o1 o2=>(r_.alloc n_ o1).alloc (by simp) o2;generalize am l p=n at *;obtain⟨a5,c5,h5,H5⟩:=N.ups;obtain⟨a6,c6,h6,H6⟩:=N.consts;obtain⟨a7,c7,h7,H7⟩:=N.ins;obtain⟨a8,c8,h8,H8⟩:=N.named;have c0:=N.name;have c1:=N.line;have c2:=N.params;have c3:=N.rest;have c4:=N.regs;have RZ:=N.names;have hu:=H5.1;have qJ:=H6.1;have jn:=H7.1;have Bp:=H8.1;clear N H5 H6 H7 H8;obtain⟨nm,ln,pr,rs,rg,us,cs,is,ns⟩:=n;simp only at *;cases rs
 ·have E:Hid (ee ⟨nm,ln,pr,false,rg,us,cs,is,ns⟩ p=(decide ((nm.size:Int)<=40)&&dw ln 0 100000&&dw rg 0 250&&dw pr 0 (rg)&&decide ((us.length:Int)<=250)&&decide ((cs.length:Int)<=500)&&(decide (0<p)||(pr==0&&us.length==0)))):=rfl;generalize ee ⟨nm,ln,pr,false,rg,us,cs,is,ns⟩ p=res at *;by_cases q0:(nm.size:Int)<=40
  ·skip
   cases q1:dw ln 0 100000
   ·have R:Hid (false=res):=by show _=_;rw[E.out];simp[q1]
    have Q1:=af q1;clear q1;clear E;go_enter Tryz.func97,Tryz.ntmps97;go_wp2_with fail
    refine(aB _ _ _ _).mono ?_;rintro e w' ⟨rfl,rfl⟩;rw[Q1.out];go_wp2_with fail
    go_ret;refine⟨al ?_,aa dR _ _⟩
    first | exact aa R | (rw[<-aa R];simp;omega) | (rw[<-aa R];simp)
   ·have Q1:=af q1;clear q1;cases q2:dw rg 0 250
    ·have R:Hid (false=res):=by show _=_;rw[E.out];simp[q2]
     have Q2:=af q2;clear q2;clear E;go_enter Tryz.func97,Tryz.ntmps97;go_wp2_with fail
     refine(aB _ _ _ _).mono ?_;rintro e w' ⟨rfl,rfl⟩;rw[Q1.out];go_wp2_with fail
     refine(aB _ _ _ _).mono ?_;rintro e w' ⟨rfl,rfl⟩;rw[Q2.out];go_wp2_with fail
     go_ret;refine⟨al ?_,aa dR _ _⟩
     first | exact aa R | (rw[<-aa R];simp;omega) | (rw[<-aa R];simp)
    ·have Q2:=af q2;clear q2;have ko:=aV Q2.out;cases q3:dw pr 0 (rg)
     ·have R:Hid (false=res):=by show _=_;rw[E.out];simp[q3]
      have Q3:=af q3;clear q3;clear E;go_enter Tryz.func97,Tryz.ntmps97;go_wp2_with fail
      refine(aB _ _ _ _).mono ?_;rintro e w' ⟨rfl,rfl⟩;rw[Q1.out];go_wp2_with fail
      refine(aB _ _ _ _).mono ?_;rintro e w' ⟨rfl,rfl⟩;rw[Q2.out];go_wp2_with fail
      refine(aB _ _ _ _).mono ?_;rintro e w' ⟨rfl,rfl⟩;rw[Q3.out];go_wp2_with fail
      go_ret;refine⟨al ?_,aa dR _ _⟩
      first | exact aa R | (rw[<-aa R];simp;omega) | (rw[<-aa R];simp)
     ·have Q3:=af q3;clear q3;by_cases q4:(us.length:Int)<=250
      ·skip
       by_cases q5:(cs.length:Int)<=500
       ·skip
        by_cases t0:0<p
        ·have R:Hid (true=res):=by show _=_;rw[E.out];simp[q0,Q1.out,Q2.out,Q3.out,q4,q5,t0]
         have t0i:(0:Int)<(p:Int):=by omega
         clear E;go_enter Tryz.func97,Tryz.ntmps97;go_wp2_with fail
         refine(aB _ _ _ _).mono ?_;rintro e w' ⟨rfl,rfl⟩;rw[Q1.out];go_wp2_with fail
         refine(aB _ _ _ _).mono ?_;rintro e w' ⟨rfl,rfl⟩;rw[Q2.out];go_wp2_with fail
         refine(aB _ _ _ _).mono ?_;rintro e w' ⟨rfl,rfl⟩;rw[Q3.out];go_wp2_with fail
         go_ret;refine⟨al ?_,aa dR _ _⟩
         first | exact aa R | (rw[<-aa R];simp;omega) | (rw[<-aa R];simp)
        have t0i:¬(0:Int)<(p:Int):=by omega
        by_cases t1:pr=0
        ·by_cases t2:us.length=0
         ·have R:Hid (true=res):=by show _=_;rw[E.out,show(us.length==0)=true from by rw[t2];rfl,show(pr==0)=true from by simpa using t1];simp[q0,Q1.out,Q2.out,Q3.out,q4,q5,t0]
          have SW:(pr==0)=true:=by simpa using t1
          have WJ:((us.length:Int)==0)=true:=by rw[t2];rfl
          clear t1 t2;clear E;go_enter Tryz.func97,Tryz.ntmps97;go_wp2_with fail
          refine(aB _ _ _ _).mono ?_;rintro e w' ⟨rfl,rfl⟩;rw[Q1.out];go_wp2_with fail
          refine(aB _ _ _ _).mono ?_;rintro e w' ⟨rfl,rfl⟩;rw[Q2.out];go_wp2_with fail
          refine(aB _ _ _ _).mono ?_;rintro e w' ⟨rfl,rfl⟩;rw[Q3.out];go_wp2_with fail
          go_ret;refine⟨al ?_,aa dR _ _⟩
          first | exact aa R | (rw[<-aa R];simp;omega) | (rw[<-aa R];simp)
         ·have R:Hid (false=res):=by show _=_;rw[E.out,show(us.length==0)=false from beq_eq_false_iff_ne.2 t2];simp[q0,Q1.out,Q2.out,Q3.out,q4,q5,t0]
          have SW:(pr==0)=true:=by simpa using t1
          have WJ:((us.length:Int)==0)=false:=beq_eq_false_iff_ne.2 (by omega);clear t1 t2;clear E;go_enter Tryz.func97,Tryz.ntmps97;go_wp2_with fail
          refine(aB _ _ _ _).mono ?_;rintro e w' ⟨rfl,rfl⟩;rw[Q1.out];go_wp2_with fail
          refine(aB _ _ _ _).mono ?_;rintro e w' ⟨rfl,rfl⟩;rw[Q2.out];go_wp2_with fail
          refine(aB _ _ _ _).mono ?_;rintro e w' ⟨rfl,rfl⟩;rw[Q3.out];go_wp2_with fail
          go_ret;refine⟨al ?_,aa dR _ _⟩
          first | exact aa R | (rw[<-aa R];simp;omega) | (rw[<-aa R];simp)
        ·have R:Hid (false=res):=by show _=_;rw[E.out];simp[q0,Q1.out,Q2.out,Q3.out,q4,q5,t0,t1]
         have SW:(pr==0)=false:=by simpa using t1
         clear t1;clear E;go_enter Tryz.func97,Tryz.ntmps97;go_wp2_with fail
         refine(aB _ _ _ _).mono ?_;rintro e w' ⟨rfl,rfl⟩;rw[Q1.out];go_wp2_with fail
         refine(aB _ _ _ _).mono ?_;rintro e w' ⟨rfl,rfl⟩;rw[Q2.out];go_wp2_with fail
         refine(aB _ _ _ _).mono ?_;rintro e w' ⟨rfl,rfl⟩;rw[Q3.out];go_wp2_with fail
         go_ret;refine⟨al ?_,aa dR _ _⟩
         first | exact aa R | (rw[<-aa R];simp;omega) | (rw[<-aa R];simp)
       ·have R:Hid (false=res):=by show _=_;rw[E.out];simp[q5]
        clear E;go_enter Tryz.func97,Tryz.ntmps97;go_wp2_with fail
        refine(aB _ _ _ _).mono ?_;rintro e w' ⟨rfl,rfl⟩;rw[Q1.out];go_wp2_with fail
        refine(aB _ _ _ _).mono ?_;rintro e w' ⟨rfl,rfl⟩;rw[Q2.out];go_wp2_with fail
        refine(aB _ _ _ _).mono ?_;rintro e w' ⟨rfl,rfl⟩;rw[Q3.out];go_wp2_with fail
        go_ret;refine⟨al ?_,aa dR _ _⟩
        first | exact aa R | (rw[<-aa R];simp;omega) | (rw[<-aa R];simp)
      ·have R:Hid (false=res):=by show _=_;rw[E.out];simp[q4]
       clear E;go_enter Tryz.func97,Tryz.ntmps97;go_wp2_with fail
       refine(aB _ _ _ _).mono ?_;rintro e w' ⟨rfl,rfl⟩;rw[Q1.out];go_wp2_with fail
       refine(aB _ _ _ _).mono ?_;rintro e w' ⟨rfl,rfl⟩;rw[Q2.out];go_wp2_with fail
       refine(aB _ _ _ _).mono ?_;rintro e w' ⟨rfl,rfl⟩;rw[Q3.out];go_wp2_with fail
       go_ret;refine⟨al ?_,aa dR _ _⟩
       first | exact aa R | (rw[<-aa R];simp;omega) | (rw[<-aa R];simp)
  ·have R:Hid (false=res):=by show _=_;rw[E.out];simp[q0]
   clear E;go_enter Tryz.func97,Tryz.ntmps97;go_wp2_with fail
   go_ret;refine⟨al ?_,aa dR _ _⟩
   first | exact aa R | (rw[<-aa R];simp;omega) | (rw[<-aa R];simp)
 ·have E:Hid (ee ⟨nm,ln,pr,true,rg,us,cs,is,ns⟩ p=(decide ((nm.size:Int)<=40)&&dw ln 0 100000&&dw rg 0 250&&dw pr 0 (rg-1)&&decide ((us.length:Int)<=250)&&decide ((cs.length:Int)<=500)&&(decide (0<p)||(pr==0&&us.length==0)))):=rfl;generalize ee ⟨nm,ln,pr,true,rg,us,cs,is,ns⟩ p=res at *;by_cases q0:(nm.size:Int)<=40
  ·skip
   cases q1:dw ln 0 100000
   ·have R:Hid (false=res):=by show _=_;rw[E.out];simp[q1]
    have Q1:=af q1;clear q1;clear E;go_enter Tryz.func97,Tryz.ntmps97;go_wp2_with fail
    refine(aB _ _ _ _).mono ?_;rintro e w' ⟨rfl,rfl⟩;rw[Q1.out];go_wp2_with fail
    go_ret;refine⟨al ?_,aa dR _ _⟩
    first | exact aa R | (rw[<-aa R];simp;omega) | (rw[<-aa R];simp)
   ·have Q1:=af q1;clear q1;cases q2:dw rg 0 250
    ·have R:Hid (false=res):=by show _=_;rw[E.out];simp[q2]
     have Q2:=af q2;clear q2;clear E;go_enter Tryz.func97,Tryz.ntmps97;go_wp2_with fail
     refine(aB _ _ _ _).mono ?_;rintro e w' ⟨rfl,rfl⟩;rw[Q1.out];go_wp2_with fail
     refine(aB _ _ _ _).mono ?_;rintro e w' ⟨rfl,rfl⟩;rw[Q2.out];go_wp2_with fail
     go_ret;refine⟨al ?_,aa dR _ _⟩
     first | exact aa R | (rw[<-aa R];simp;omega) | (rw[<-aa R];simp)
    ·have Q2:=af q2;clear q2;have ko:=aV Q2.out;cases q3:dw pr 0 (rg-1)
     ·have R:Hid (false=res):=by show _=_;rw[E.out];simp[q3]
      have Q3:=af q3;clear q3;clear E;go_enter Tryz.func97,Tryz.ntmps97;go_wp2_with fail
      refine(aB _ _ _ _).mono ?_;rintro e w' ⟨rfl,rfl⟩;rw[Q1.out];go_wp2_with fail
      refine(aB _ _ _ _).mono ?_;rintro e w' ⟨rfl,rfl⟩;rw[Q2.out];go_wp2_with fail
      refine(aB _ _ _ _).mono ?_;rintro e w' ⟨rfl,rfl⟩;rw[Q3.out];go_wp2_with fail
      go_ret;refine⟨al ?_,aa dR _ _⟩
      first | exact aa R | (rw[<-aa R];simp;omega) | (rw[<-aa R];simp)
     ·have Q3:=af q3;clear q3;by_cases q4:(us.length:Int)<=250
      ·skip
       by_cases q5:(cs.length:Int)<=500
       ·skip
        by_cases t0:0<p
        ·have R:Hid (true=res):=by show _=_;rw[E.out];simp[q0,Q1.out,Q2.out,Q3.out,q4,q5,t0]
         have t0i:(0:Int)<(p:Int):=by omega
         clear E;go_enter Tryz.func97,Tryz.ntmps97;go_wp2_with fail
         refine(aB _ _ _ _).mono ?_;rintro e w' ⟨rfl,rfl⟩;rw[Q1.out];go_wp2_with fail
         refine(aB _ _ _ _).mono ?_;rintro e w' ⟨rfl,rfl⟩;rw[Q2.out];go_wp2_with fail
         refine(aB _ _ _ _).mono ?_;rintro e w' ⟨rfl,rfl⟩;rw[Q3.out];go_wp2_with fail
         go_ret;refine⟨al ?_,aa dR _ _⟩
         first | exact aa R | (rw[<-aa R];simp;omega) | (rw[<-aa R];simp)
        have t0i:¬(0:Int)<(p:Int):=by omega
        by_cases t1:pr=0
        ·by_cases t2:us.length=0
         ·have R:Hid (true=res):=by show _=_;rw[E.out,show(us.length==0)=true from by rw[t2];rfl,show(pr==0)=true from by simpa using t1];simp[q0,Q1.out,Q2.out,Q3.out,q4,q5,t0]
          have SW:(pr==0)=true:=by simpa using t1
          have WJ:((us.length:Int)==0)=true:=by rw[t2];rfl
          clear t1 t2;clear E;go_enter Tryz.func97,Tryz.ntmps97;go_wp2_with fail
          refine(aB _ _ _ _).mono ?_;rintro e w' ⟨rfl,rfl⟩;rw[Q1.out];go_wp2_with fail
          refine(aB _ _ _ _).mono ?_;rintro e w' ⟨rfl,rfl⟩;rw[Q2.out];go_wp2_with fail
          refine(aB _ _ _ _).mono ?_;rintro e w' ⟨rfl,rfl⟩;rw[Q3.out];go_wp2_with fail
          go_ret;refine⟨al ?_,aa dR _ _⟩
          first | exact aa R | (rw[<-aa R];simp;omega) | (rw[<-aa R];simp)
         ·have R:Hid (false=res):=by show _=_;rw[E.out,show(us.length==0)=false from beq_eq_false_iff_ne.2 t2];simp[q0,Q1.out,Q2.out,Q3.out,q4,q5,t0]
          have SW:(pr==0)=true:=by simpa using t1
          have WJ:((us.length:Int)==0)=false:=beq_eq_false_iff_ne.2 (by omega);clear t1 t2;clear E;go_enter Tryz.func97,Tryz.ntmps97;go_wp2_with fail
          refine(aB _ _ _ _).mono ?_;rintro e w' ⟨rfl,rfl⟩;rw[Q1.out];go_wp2_with fail
          refine(aB _ _ _ _).mono ?_;rintro e w' ⟨rfl,rfl⟩;rw[Q2.out];go_wp2_with fail
          refine(aB _ _ _ _).mono ?_;rintro e w' ⟨rfl,rfl⟩;rw[Q3.out];go_wp2_with fail
          go_ret;refine⟨al ?_,aa dR _ _⟩
          first | exact aa R | (rw[<-aa R];simp;omega) | (rw[<-aa R];simp)
        ·have R:Hid (false=res):=by show _=_;rw[E.out];simp[q0,Q1.out,Q2.out,Q3.out,q4,q5,t0,t1]
         have SW:(pr==0)=false:=by simpa using t1
         clear t1;clear E;go_enter Tryz.func97,Tryz.ntmps97;go_wp2_with fail
         refine(aB _ _ _ _).mono ?_;rintro e w' ⟨rfl,rfl⟩;rw[Q1.out];go_wp2_with fail
         refine(aB _ _ _ _).mono ?_;rintro e w' ⟨rfl,rfl⟩;rw[Q2.out];go_wp2_with fail
         refine(aB _ _ _ _).mono ?_;rintro e w' ⟨rfl,rfl⟩;rw[Q3.out];go_wp2_with fail
         go_ret;refine⟨al ?_,aa dR _ _⟩
         first | exact aa R | (rw[<-aa R];simp;omega) | (rw[<-aa R];simp)
       ·have R:Hid (false=res):=by show _=_;rw[E.out];simp[q5]
        clear E;go_enter Tryz.func97,Tryz.ntmps97;go_wp2_with fail
        refine(aB _ _ _ _).mono ?_;rintro e w' ⟨rfl,rfl⟩;rw[Q1.out];go_wp2_with fail
        refine(aB _ _ _ _).mono ?_;rintro e w' ⟨rfl,rfl⟩;rw[Q2.out];go_wp2_with fail
        refine(aB _ _ _ _).mono ?_;rintro e w' ⟨rfl,rfl⟩;rw[Q3.out];go_wp2_with fail
        go_ret;refine⟨al ?_,aa dR _ _⟩
        first | exact aa R | (rw[<-aa R];simp;omega) | (rw[<-aa R];simp)
      ·have R:Hid (false=res):=by show _=_;rw[E.out];simp[q4]
       clear E;go_enter Tryz.func97,Tryz.ntmps97;go_wp2_with fail
       refine(aB _ _ _ _).mono ?_;rintro e w' ⟨rfl,rfl⟩;rw[Q1.out];go_wp2_with fail
       refine(aB _ _ _ _).mono ?_;rintro e w' ⟨rfl,rfl⟩;rw[Q2.out];go_wp2_with fail
       refine(aB _ _ _ _).mono ?_;rintro e w' ⟨rfl,rfl⟩;rw[Q3.out];go_wp2_with fail
       go_ret;refine⟨al ?_,aa dR _ _⟩
       first | exact aa R | (rw[<-aa R];simp;omega) | (rw[<-aa R];simp)
  ·have R:Hid (false=res):=by show _=_;rw[E.out];simp[q0]
   clear E;go_enter Tryz.func97,Tryz.ntmps97;go_wp2_with fail
   go_ret;refine⟨al ?_,aa dR _ _⟩
   first | exact aa R | (rw[<-aa R];simp;omega) | (rw[<-aa R];simp)
end Go.Proofs.YtcjfjflljdojlaaGreatDoor

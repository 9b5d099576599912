import Derived.Test.YthmjjhfjkgaocaaGreatDoorPart04
import Derived.BigQuiet
set_option linter.unusedSimpArgs false
set_option linter.unusedVariables false
set_option maxHeartbeats 4000000
set_option maxRecDepth 100000
namespace Go.Proofs.YthmjjhfjkgaocaaGreatDoor
open Go.RowKit
theorem ret_bool {a b:Bool}(h:a=b):Ending.returned (.bool a)=.returned (.bool b):=by rw[h]
def sIn (x lo hi:Int):Bool:=decide (lo≤x)&&decide (x≤hi)
theorem sIn_true {x lo hi:Int}(h:sIn x lo hi=true):lo≤x∧x≤hi:=by
 unfold sIn at h
 rw[Bool.and_eq_true]at h
 exact⟨of_decide_eq_true h.1,of_decide_eq_true h.2⟩
theorem l6in_any (x lo hi:Int)(w:World):Calls Tryz.prog 101 #[.int .i64 x,.int .i64 lo,.int .i64 hi] w fun e w'=>e=.returned (.bool (sIn x lo hi))∧w'=w:=by
 by_cases h1:lo≤x
 ·go_enter Tryz.func101,Tryz.ntmps101
  go_wp2
  go_ret
  exact⟨by simp[sIn,h1],rfl⟩
 ·go_enter Tryz.func101,Tryz.ntmps101
  go_wp2
  go_ret
  exact⟨by simp[sIn];omega,rfl⟩
theorem l6fault_any (c p i:Int)(w:World):Calls Tryz.prog 31 #[.int .i64 c,.int .i64 p,.int .i64 i] w fun e w'=>e=.returned (.agg #[.int .i64 c,.int .i64 p,.int .i64 i])∧Below w.heap.size w w':=by
 go_enter Tryz.func31,Tryz.ntmps31
 go_wp2_with fail
 exact bodyPost_ret (v:=.agg #[.int .i64 c,.int .i64 p,.int .i64 i]) (by simp[results,Tryz.results31,go_sem]) rfl ⟨rfl,by repeat (first | refine Below.alloc ?_ (by simp<;>omega) _ | exact Below.refl _ _)⟩
def sNamed (rg:Int)(ni:Nat)(n:NamD)(i:Nat):Bool:=
 decide ((i:Int)<500)&&sIn n.name.size 1 40&&sIn n.reg 0 (rg-1)&&decide (0≤n.fro)&&decide (n.fro≤n.til)&&decide (n.til≤ni)
theorem l6namedOk_any (nm:ByteArray)(ln pr:Int)(rs:Bool)(rg:Int)(us:List (Bool×Int))(cs:List ValD)(is:List InsD)(ns:List NamD)(a5 a6 a7 a8:Option Addr)(c5 c6 c7 c8:Nat)(i:Nat)(S:Nat→Prop)(w:World)(h8:NamsAt w S a8 ns)(hB:∀ b,S b→b<w.heap.size)(hi:i<ns.length)(hrg:0≤rg∧rg≤250)(hil:is.length≤9223372036854775807) :
  Calls Tryz.prog 99 #[.agg #[.string nm,.int .i64 ln,.int .i64 pr,.bool rs,.int .i64 rg,.slice a5 us.length c5,.slice a6 cs.length c6,.slice a7 is.length c7,.slice a8 ns.length c8],.int .i64 i] w fun e w'=>e=.returned (.bool (sNamed rg is.length (ns[i]?.getD NamD.z) i))∧Below w.heap.size w w':=by
 have hn:=h8.1
 obtain⟨b,off,rfl,hb,hcc⟩:=h8.2 (by omega)
 have N:=hcc i hi
 have hbl:=hB b hb
 clear hcc h8 hB
 have HBA:Hid (∀ o1 o2,Below w.heap.size w ((w.alloc o1).alloc o2)):=fun o1 o2=>((Below.refl _ _).alloc (Nat.le_refl _) o1).alloc (by simp) o2
 obtain⟨hr0,hr1⟩:=hrg
 generalize ns[i]?.getD NamD.z=n at *
 have c0:=N.name;have c1:=N.reg;have c2:=N.fro;have c3:=N.til
 have hns:=N.names
 clear N
 obtain⟨name,reg,fro,til⟩:=n
 simp only at *
 have E:Hid (sNamed rg is.length ⟨name,reg,fro,til⟩ i=(decide ((i:Int)<500)&&sIn name.size 1 40&&sIn reg 0 (rg-1)&&decide (0≤fro)&&decide (fro≤til)&&decide (til≤is.length))):=rfl
 generalize sNamed rg is.length ⟨name,reg,fro,til⟩ i=res at *
 by_cases q0:(i:Int)<500
 ·skip
  cases q1:sIn name.size 1 40
  ·have R:Hid (false=res):=by show _=_;rw[E.out];simp[q1]
   have Q1:=hide q1;clear q1
   clear E
   go_enter Tryz.func99,Tryz.ntmps99
   go_wp2_with fail
   refine(l6in_any _ _ _ _).mono ?_
   rintro e w' ⟨rfl,rfl⟩
   rw[Q1.out]
   go_wp2_with fail
   go_ret
   refine⟨ret_bool ?_,unhide HBA _ _⟩
   first | exact unhide R | (rw[←unhide R];simp;omega)
  ·have Q1:=hide q1;clear q1
   cases q2:sIn reg 0 (rg-1)
   ·have R:Hid (false=res):=by show _=_;rw[E.out];simp[q2]
    have Q2:=hide q2;clear q2
    clear E
    go_enter Tryz.func99,Tryz.ntmps99
    go_wp2_with fail
    refine(l6in_any _ _ _ _).mono ?_
    rintro e w' ⟨rfl,rfl⟩
    rw[Q1.out]
    go_wp2_with fail
    refine(l6in_any _ _ _ _).mono ?_
    rintro e w' ⟨rfl,rfl⟩
    rw[Q2.out]
    go_wp2_with fail
    go_ret
    refine⟨ret_bool ?_,unhide HBA _ _⟩
    first | exact unhide R | (rw[←unhide R];simp;omega)
   ·have Q2:=hide q2;clear q2
    by_cases q3:0≤fro
    ·skip
     by_cases q4:fro≤til
     ·skip
      by_cases q5:til≤is.length
      ·skip
       have R:Hid (true=res):=by show _=_;rw[E.out];simp[q0,Q1.out,Q2.out,q3,q4,q5]
       clear E
       go_enter Tryz.func99,Tryz.ntmps99
       go_wp2_with fail
       refine(l6in_any _ _ _ _).mono ?_
       rintro e w' ⟨rfl,rfl⟩
       rw[Q1.out]
       go_wp2_with fail
       refine(l6in_any _ _ _ _).mono ?_
       rintro e w' ⟨rfl,rfl⟩
       rw[Q2.out]
       go_wp2_with fail
       go_ret
       refine⟨ret_bool ?_,unhide HBA _ _⟩
       first | exact unhide R | (rw[←unhide R];simp;omega)
      ·have R:Hid (false=res):=by show _=_;rw[E.out];simp[q5]
       clear E
       go_enter Tryz.func99,Tryz.ntmps99
       go_wp2_with fail
       refine(l6in_any _ _ _ _).mono ?_
       rintro e w' ⟨rfl,rfl⟩
       rw[Q1.out]
       go_wp2_with fail
       refine(l6in_any _ _ _ _).mono ?_
       rintro e w' ⟨rfl,rfl⟩
       rw[Q2.out]
       go_wp2_with fail
       go_ret
       refine⟨ret_bool ?_,unhide HBA _ _⟩
       first | exact unhide R | (rw[←unhide R];simp;omega)
     ·have R:Hid (false=res):=by show _=_;rw[E.out];simp[q4]
      clear E
      go_enter Tryz.func99,Tryz.ntmps99
      go_wp2_with fail
      refine(l6in_any _ _ _ _).mono ?_
      rintro e w' ⟨rfl,rfl⟩
      rw[Q1.out]
      go_wp2_with fail
      refine(l6in_any _ _ _ _).mono ?_
      rintro e w' ⟨rfl,rfl⟩
      rw[Q2.out]
      go_wp2_with fail
      go_ret
      refine⟨ret_bool ?_,unhide HBA _ _⟩
      first | exact unhide R | (rw[←unhide R];simp;omega)
    ·have R:Hid (false=res):=by show _=_;rw[E.out];simp[q3]
     clear E
     go_enter Tryz.func99,Tryz.ntmps99
     go_wp2_with fail
     refine(l6in_any _ _ _ _).mono ?_
     rintro e w' ⟨rfl,rfl⟩
     rw[Q1.out]
     go_wp2_with fail
     refine(l6in_any _ _ _ _).mono ?_
     rintro e w' ⟨rfl,rfl⟩
     rw[Q2.out]
     go_wp2_with fail
     go_ret
     refine⟨ret_bool ?_,unhide HBA _ _⟩
     first | exact unhide R | (rw[←unhide R];simp;omega)
 ·have R:Hid (false=res):=by show _=_;rw[E.out];simp[q0]
  clear E
  go_enter Tryz.func99,Tryz.ntmps99
  go_wp2_with fail
  go_ret
  refine⟨ret_bool ?_,unhide HBA _ _⟩
  first | exact unhide R | (rw[←unhide R];simp;omega)
def prD (l:List ProtoD)(p:Nat):ProtoD:=l[p]?.getD ProtoD.z
def sHeadC (n:ProtoD)(p:Nat):Bool:=
 decide ((n.name.size:Int)≤40)&&sIn n.line 0 100000&&sIn n.regs 0 250&&sIn n.params 0 (if n.rest then n.regs-1 else n.regs)&&decide ((n.ups.length:Int)≤250)&&decide ((n.consts.length:Int)≤500)&&(decide (0<p)||(n.params==0&&n.ups.length==0))
theorem l6headOk_any (a:Option Addr)(l:List ProtoD)(c p:Nat)(S:Nat→Prop)(w:World)(hs:ProtosAt w S a l)(hB:∀ b,S b→b<w.heap.size)(hp:p<l.length) :
  Calls Tryz.prog 97 #[.agg #[.slice a l.length c],.int .i64 p] w fun e w'=>e=.returned (.bool (sHeadC (prD l p) p))∧Below w.heap.size w w':=by
 have hn:=hs.1
 obtain⟨b,off,rfl,hb,hcc⟩:=hs.2 (by omega)
 have N:ProtoCells w S b (off+p * 9) (prD l p):=hcc p hp
 have hbl:=hB b hb
 clear hcc hs hB
 have HBA:Hid (∀ o1 o2,Below w.heap.size w ((w.alloc o1).alloc o2)):=fun o1 o2=>((Below.refl _ _).alloc (Nat.le_refl _) o1).alloc (by simp) o2
 generalize prD l p=n at *
 obtain⟨a5,c5,h5,H5⟩:=N.ups
 obtain⟨a6,c6,h6,H6⟩:=N.consts
 obtain⟨a7,c7,h7,H7⟩:=N.ins
 obtain⟨a8,c8,h8,H8⟩:=N.named
 have c0:=N.name;have c1:=N.line;have c2:=N.params;have c3:=N.rest;have c4:=N.regs
 have hns:=N.names
 have hu:=H5.1;have hcl:=H6.1;have hil:=H7.1;have hnl:=H8.1
 clear N H5 H6 H7 H8
 obtain⟨nm,ln,pr,rs,rg,us,cs,is,ns⟩:=n
 simp only at *
 cases rs
 ·have E:Hid (sHeadC ⟨nm,ln,pr,false,rg,us,cs,is,ns⟩ p=(decide ((nm.size:Int)≤40)&&sIn ln 0 100000&&sIn rg 0 250&&sIn pr 0 (rg)&&decide ((us.length:Int)≤250)&&decide ((cs.length:Int)≤500)&&(decide (0<p)||(pr==0&&us.length==0)))):=rfl
  generalize sHeadC ⟨nm,ln,pr,false,rg,us,cs,is,ns⟩ p=res at *
  by_cases q0:(nm.size:Int)≤40
  ·skip
   cases q1:sIn ln 0 100000
   ·have R:Hid (false=res):=by show _=_;rw[E.out];simp[q1]
    have Q1:=hide q1;clear q1
    clear E
    go_enter Tryz.func97,Tryz.ntmps97
    go_wp2_with fail
    refine(l6in_any _ _ _ _).mono ?_
    rintro e w' ⟨rfl,rfl⟩
    rw[Q1.out]
    go_wp2_with fail
    go_ret
    refine⟨ret_bool ?_,unhide HBA _ _⟩
    first | exact unhide R | (rw[←unhide R];simp;omega) | (rw[←unhide R];simp)
   ·have Q1:=hide q1;clear q1
    cases q2:sIn rg 0 250
    ·have R:Hid (false=res):=by show _=_;rw[E.out];simp[q2]
     have Q2:=hide q2;clear q2
     clear E
     go_enter Tryz.func97,Tryz.ntmps97
     go_wp2_with fail
     refine(l6in_any _ _ _ _).mono ?_
     rintro e w' ⟨rfl,rfl⟩
     rw[Q1.out]
     go_wp2_with fail
     refine(l6in_any _ _ _ _).mono ?_
     rintro e w' ⟨rfl,rfl⟩
     rw[Q2.out]
     go_wp2_with fail
     go_ret
     refine⟨ret_bool ?_,unhide HBA _ _⟩
     first | exact unhide R | (rw[←unhide R];simp;omega) | (rw[←unhide R];simp)
    ·have Q2:=hide q2;clear q2
     have hrg:=sIn_true Q2.out
     cases q3:sIn pr 0 (rg)
     ·have R:Hid (false=res):=by show _=_;rw[E.out];simp[q3]
      have Q3:=hide q3;clear q3
      clear E
      go_enter Tryz.func97,Tryz.ntmps97
      go_wp2_with fail
      refine(l6in_any _ _ _ _).mono ?_
      rintro e w' ⟨rfl,rfl⟩
      rw[Q1.out]
      go_wp2_with fail
      refine(l6in_any _ _ _ _).mono ?_
      rintro e w' ⟨rfl,rfl⟩
      rw[Q2.out]
      go_wp2_with fail
      refine(l6in_any _ _ _ _).mono ?_
      rintro e w' ⟨rfl,rfl⟩
      rw[Q3.out]
      go_wp2_with fail
      go_ret
      refine⟨ret_bool ?_,unhide HBA _ _⟩
      first | exact unhide R | (rw[←unhide R];simp;omega) | (rw[←unhide R];simp)
     ·have Q3:=hide q3;clear q3
      by_cases q4:(us.length:Int)≤250
      ·skip
       by_cases q5:(cs.length:Int)≤500
       ·skip
        by_cases t0:0<p
        ·have R:Hid (true=res):=by show _=_;rw[E.out];simp[q0,Q1.out,Q2.out,Q3.out,q4,q5,t0]
         have t0i:(0:Int)<(p:Int):=by omega
         clear E
         go_enter Tryz.func97,Tryz.ntmps97
         go_wp2_with fail
         refine(l6in_any _ _ _ _).mono ?_
         rintro e w' ⟨rfl,rfl⟩
         rw[Q1.out]
         go_wp2_with fail
         refine(l6in_any _ _ _ _).mono ?_
         rintro e w' ⟨rfl,rfl⟩
         rw[Q2.out]
         go_wp2_with fail
         refine(l6in_any _ _ _ _).mono ?_
         rintro e w' ⟨rfl,rfl⟩
         rw[Q3.out]
         go_wp2_with fail
         go_ret
         refine⟨ret_bool ?_,unhide HBA _ _⟩
         first | exact unhide R | (rw[←unhide R];simp;omega) | (rw[←unhide R];simp)
        have t0i:¬(0:Int)<(p:Int):=by omega
        by_cases t1:pr=0
        ·by_cases t2:us.length=0
         ·have R:Hid (true=res):=by show _=_;rw[E.out,show(us.length==0)=true from by rw[t2];rfl,show(pr==0)=true from by simpa using t1];simp[q0,Q1.out,Q2.out,Q3.out,q4,q5,t0]
          have t1b:(pr==0)=true:=by simpa using t1
          have t2b:((us.length:Int)==0)=true:=by rw[t2];rfl
          clear t1 t2
          clear E
          go_enter Tryz.func97,Tryz.ntmps97
          go_wp2_with fail
          refine(l6in_any _ _ _ _).mono ?_
          rintro e w' ⟨rfl,rfl⟩
          rw[Q1.out]
          go_wp2_with fail
          refine(l6in_any _ _ _ _).mono ?_
          rintro e w' ⟨rfl,rfl⟩
          rw[Q2.out]
          go_wp2_with fail
          refine(l6in_any _ _ _ _).mono ?_
          rintro e w' ⟨rfl,rfl⟩
          rw[Q3.out]
          go_wp2_with fail
          go_ret
          refine⟨ret_bool ?_,unhide HBA _ _⟩
          first | exact unhide R | (rw[←unhide R];simp;omega) | (rw[←unhide R];simp)
         ·have R:Hid (false=res):=by show _=_;rw[E.out,show(us.length==0)=false from beq_eq_false_iff_ne.2 t2];simp[q0,Q1.out,Q2.out,Q3.out,q4,q5,t0]
          have t1b:(pr==0)=true:=by simpa using t1
          have t2b:((us.length:Int)==0)=false:=beq_eq_false_iff_ne.2 (by omega)
          clear t1 t2
          clear E
          go_enter Tryz.func97,Tryz.ntmps97
          go_wp2_with fail
          refine(l6in_any _ _ _ _).mono ?_
          rintro e w' ⟨rfl,rfl⟩
          rw[Q1.out]
          go_wp2_with fail
          refine(l6in_any _ _ _ _).mono ?_
          rintro e w' ⟨rfl,rfl⟩
          rw[Q2.out]
          go_wp2_with fail
          refine(l6in_any _ _ _ _).mono ?_
          rintro e w' ⟨rfl,rfl⟩
          rw[Q3.out]
          go_wp2_with fail
          go_ret
          refine⟨ret_bool ?_,unhide HBA _ _⟩
          first | exact unhide R | (rw[←unhide R];simp;omega) | (rw[←unhide R];simp)
        ·have R:Hid (false=res):=by show _=_;rw[E.out];simp[q0,Q1.out,Q2.out,Q3.out,q4,q5,t0,t1]
         have t1b:(pr==0)=false:=by simpa using t1
         clear t1
         clear E
         go_enter Tryz.func97,Tryz.ntmps97
         go_wp2_with fail
         refine(l6in_any _ _ _ _).mono ?_
         rintro e w' ⟨rfl,rfl⟩
         rw[Q1.out]
         go_wp2_with fail
         refine(l6in_any _ _ _ _).mono ?_
         rintro e w' ⟨rfl,rfl⟩
         rw[Q2.out]
         go_wp2_with fail
         refine(l6in_any _ _ _ _).mono ?_
         rintro e w' ⟨rfl,rfl⟩
         rw[Q3.out]
         go_wp2_with fail
         go_ret
         refine⟨ret_bool ?_,unhide HBA _ _⟩
         first | exact unhide R | (rw[←unhide R];simp;omega) | (rw[←unhide R];simp)
       ·have R:Hid (false=res):=by show _=_;rw[E.out];simp[q5]
        clear E
        go_enter Tryz.func97,Tryz.ntmps97
        go_wp2_with fail
        refine(l6in_any _ _ _ _).mono ?_
        rintro e w' ⟨rfl,rfl⟩
        rw[Q1.out]
        go_wp2_with fail
        refine(l6in_any _ _ _ _).mono ?_
        rintro e w' ⟨rfl,rfl⟩
        rw[Q2.out]
        go_wp2_with fail
        refine(l6in_any _ _ _ _).mono ?_
        rintro e w' ⟨rfl,rfl⟩
        rw[Q3.out]
        go_wp2_with fail
        go_ret
        refine⟨ret_bool ?_,unhide HBA _ _⟩
        first | exact unhide R | (rw[←unhide R];simp;omega) | (rw[←unhide R];simp)
      ·have R:Hid (false=res):=by show _=_;rw[E.out];simp[q4]
       clear E
       go_enter Tryz.func97,Tryz.ntmps97
       go_wp2_with fail
       refine(l6in_any _ _ _ _).mono ?_
       rintro e w' ⟨rfl,rfl⟩
       rw[Q1.out]
       go_wp2_with fail
       refine(l6in_any _ _ _ _).mono ?_
       rintro e w' ⟨rfl,rfl⟩
       rw[Q2.out]
       go_wp2_with fail
       refine(l6in_any _ _ _ _).mono ?_
       rintro e w' ⟨rfl,rfl⟩
       rw[Q3.out]
       go_wp2_with fail
       go_ret
       refine⟨ret_bool ?_,unhide HBA _ _⟩
       first | exact unhide R | (rw[←unhide R];simp;omega) | (rw[←unhide R];simp)
  ·have R:Hid (false=res):=by show _=_;rw[E.out];simp[q0]
   clear E
   go_enter Tryz.func97,Tryz.ntmps97
   go_wp2_with fail
   go_ret
   refine⟨ret_bool ?_,unhide HBA _ _⟩
   first | exact unhide R | (rw[←unhide R];simp;omega) | (rw[←unhide R];simp)
 ·have E:Hid (sHeadC ⟨nm,ln,pr,true,rg,us,cs,is,ns⟩ p=(decide ((nm.size:Int)≤40)&&sIn ln 0 100000&&sIn rg 0 250&&sIn pr 0 (rg-1)&&decide ((us.length:Int)≤250)&&decide ((cs.length:Int)≤500)&&(decide (0<p)||(pr==0&&us.length==0)))):=rfl
  generalize sHeadC ⟨nm,ln,pr,true,rg,us,cs,is,ns⟩ p=res at *
  by_cases q0:(nm.size:Int)≤40
  ·skip
   cases q1:sIn ln 0 100000
   ·have R:Hid (false=res):=by show _=_;rw[E.out];simp[q1]
    have Q1:=hide q1;clear q1
    clear E
    go_enter Tryz.func97,Tryz.ntmps97
    go_wp2_with fail
    refine(l6in_any _ _ _ _).mono ?_
    rintro e w' ⟨rfl,rfl⟩
    rw[Q1.out]
    go_wp2_with fail
    go_ret
    refine⟨ret_bool ?_,unhide HBA _ _⟩
    first | exact unhide R | (rw[←unhide R];simp;omega) | (rw[←unhide R];simp)
   ·have Q1:=hide q1;clear q1
    cases q2:sIn rg 0 250
    ·have R:Hid (false=res):=by show _=_;rw[E.out];simp[q2]
     have Q2:=hide q2;clear q2
     clear E
     go_enter Tryz.func97,Tryz.ntmps97
     go_wp2_with fail
     refine(l6in_any _ _ _ _).mono ?_
     rintro e w' ⟨rfl,rfl⟩
     rw[Q1.out]
     go_wp2_with fail
     refine(l6in_any _ _ _ _).mono ?_
     rintro e w' ⟨rfl,rfl⟩
     rw[Q2.out]
     go_wp2_with fail
     go_ret
     refine⟨ret_bool ?_,unhide HBA _ _⟩
     first | exact unhide R | (rw[←unhide R];simp;omega) | (rw[←unhide R];simp)
    ·have Q2:=hide q2;clear q2
     have hrg:=sIn_true Q2.out
     cases q3:sIn pr 0 (rg-1)
     ·have R:Hid (false=res):=by show _=_;rw[E.out];simp[q3]
      have Q3:=hide q3;clear q3
      clear E
      go_enter Tryz.func97,Tryz.ntmps97
      go_wp2_with fail
      refine(l6in_any _ _ _ _).mono ?_
      rintro e w' ⟨rfl,rfl⟩
      rw[Q1.out]
      go_wp2_with fail
      refine(l6in_any _ _ _ _).mono ?_
      rintro e w' ⟨rfl,rfl⟩
      rw[Q2.out]
      go_wp2_with fail
      refine(l6in_any _ _ _ _).mono ?_
      rintro e w' ⟨rfl,rfl⟩
      rw[Q3.out]
      go_wp2_with fail
      go_ret
      refine⟨ret_bool ?_,unhide HBA _ _⟩
      first | exact unhide R | (rw[←unhide R];simp;omega) | (rw[←unhide R];simp)
     ·have Q3:=hide q3;clear q3
      by_cases q4:(us.length:Int)≤250
      ·skip
       by_cases q5:(cs.length:Int)≤500
       ·skip
        by_cases t0:0<p
        ·have R:Hid (true=res):=by show _=_;rw[E.out];simp[q0,Q1.out,Q2.out,Q3.out,q4,q5,t0]
         have t0i:(0:Int)<(p:Int):=by omega
         clear E
         go_enter Tryz.func97,Tryz.ntmps97
         go_wp2_with fail
         refine(l6in_any _ _ _ _).mono ?_
         rintro e w' ⟨rfl,rfl⟩
         rw[Q1.out]
         go_wp2_with fail
         refine(l6in_any _ _ _ _).mono ?_
         rintro e w' ⟨rfl,rfl⟩
         rw[Q2.out]
         go_wp2_with fail
         refine(l6in_any _ _ _ _).mono ?_
         rintro e w' ⟨rfl,rfl⟩
         rw[Q3.out]
         go_wp2_with fail
         go_ret
         refine⟨ret_bool ?_,unhide HBA _ _⟩
         first | exact unhide R | (rw[←unhide R];simp;omega) | (rw[←unhide R];simp)
        have t0i:¬(0:Int)<(p:Int):=by omega
        by_cases t1:pr=0
        ·by_cases t2:us.length=0
         ·have R:Hid (true=res):=by show _=_;rw[E.out,show(us.length==0)=true from by rw[t2];rfl,show(pr==0)=true from by simpa using t1];simp[q0,Q1.out,Q2.out,Q3.out,q4,q5,t0]
          have t1b:(pr==0)=true:=by simpa using t1
          have t2b:((us.length:Int)==0)=true:=by rw[t2];rfl
          clear t1 t2
          clear E
          go_enter Tryz.func97,Tryz.ntmps97
          go_wp2_with fail
          refine(l6in_any _ _ _ _).mono ?_
          rintro e w' ⟨rfl,rfl⟩
          rw[Q1.out]
          go_wp2_with fail
          refine(l6in_any _ _ _ _).mono ?_
          rintro e w' ⟨rfl,rfl⟩
          rw[Q2.out]
          go_wp2_with fail
          refine(l6in_any _ _ _ _).mono ?_
          rintro e w' ⟨rfl,rfl⟩
          rw[Q3.out]
          go_wp2_with fail
          go_ret
          refine⟨ret_bool ?_,unhide HBA _ _⟩
          first | exact unhide R | (rw[←unhide R];simp;omega) | (rw[←unhide R];simp)
         ·have R:Hid (false=res):=by show _=_;rw[E.out,show(us.length==0)=false from beq_eq_false_iff_ne.2 t2];simp[q0,Q1.out,Q2.out,Q3.out,q4,q5,t0]
          have t1b:(pr==0)=true:=by simpa using t1
          have t2b:((us.length:Int)==0)=false:=beq_eq_false_iff_ne.2 (by omega)
          clear t1 t2
          clear E
          go_enter Tryz.func97,Tryz.ntmps97
          go_wp2_with fail
          refine(l6in_any _ _ _ _).mono ?_
          rintro e w' ⟨rfl,rfl⟩
          rw[Q1.out]
          go_wp2_with fail
          refine(l6in_any _ _ _ _).mono ?_
          rintro e w' ⟨rfl,rfl⟩
          rw[Q2.out]
          go_wp2_with fail
          refine(l6in_any _ _ _ _).mono ?_
          rintro e w' ⟨rfl,rfl⟩
          rw[Q3.out]
          go_wp2_with fail
          go_ret
          refine⟨ret_bool ?_,unhide HBA _ _⟩
          first | exact unhide R | (rw[←unhide R];simp;omega) | (rw[←unhide R];simp)
        ·have R:Hid (false=res):=by show _=_;rw[E.out];simp[q0,Q1.out,Q2.out,Q3.out,q4,q5,t0,t1]
         have t1b:(pr==0)=false:=by simpa using t1
         clear t1
         clear E
         go_enter Tryz.func97,Tryz.ntmps97
         go_wp2_with fail
         refine(l6in_any _ _ _ _).mono ?_
         rintro e w' ⟨rfl,rfl⟩
         rw[Q1.out]
         go_wp2_with fail
         refine(l6in_any _ _ _ _).mono ?_
         rintro e w' ⟨rfl,rfl⟩
         rw[Q2.out]
         go_wp2_with fail
         refine(l6in_any _ _ _ _).mono ?_
         rintro e w' ⟨rfl,rfl⟩
         rw[Q3.out]
         go_wp2_with fail
         go_ret
         refine⟨ret_bool ?_,unhide HBA _ _⟩
         first | exact unhide R | (rw[←unhide R];simp;omega) | (rw[←unhide R];simp)
       ·have R:Hid (false=res):=by show _=_;rw[E.out];simp[q5]
        clear E
        go_enter Tryz.func97,Tryz.ntmps97
        go_wp2_with fail
        refine(l6in_any _ _ _ _).mono ?_
        rintro e w' ⟨rfl,rfl⟩
        rw[Q1.out]
        go_wp2_with fail
        refine(l6in_any _ _ _ _).mono ?_
        rintro e w' ⟨rfl,rfl⟩
        rw[Q2.out]
        go_wp2_with fail
        refine(l6in_any _ _ _ _).mono ?_
        rintro e w' ⟨rfl,rfl⟩
        rw[Q3.out]
        go_wp2_with fail
        go_ret
        refine⟨ret_bool ?_,unhide HBA _ _⟩
        first | exact unhide R | (rw[←unhide R];simp;omega) | (rw[←unhide R];simp)
      ·have R:Hid (false=res):=by show _=_;rw[E.out];simp[q4]
       clear E
       go_enter Tryz.func97,Tryz.ntmps97
       go_wp2_with fail
       refine(l6in_any _ _ _ _).mono ?_
       rintro e w' ⟨rfl,rfl⟩
       rw[Q1.out]
       go_wp2_with fail
       refine(l6in_any _ _ _ _).mono ?_
       rintro e w' ⟨rfl,rfl⟩
       rw[Q2.out]
       go_wp2_with fail
       refine(l6in_any _ _ _ _).mono ?_
       rintro e w' ⟨rfl,rfl⟩
       rw[Q3.out]
       go_wp2_with fail
       go_ret
       refine⟨ret_bool ?_,unhide HBA _ _⟩
       first | exact unhide R | (rw[←unhide R];simp;omega) | (rw[←unhide R];simp)
  ·have R:Hid (false=res):=by show _=_;rw[E.out];simp[q0]
   clear E
   go_enter Tryz.func97,Tryz.ntmps97
   go_wp2_with fail
   go_ret
   refine⟨ret_bool ?_,unhide HBA _ _⟩
   first | exact unhide R | (rw[←unhide R];simp;omega) | (rw[←unhide R];simp)
end Go.Proofs.YthmjjhfjkgaocaaGreatDoor

import Derived.Test.YtmjcpapdncfkpaaGreatDoorPart04
set_option linter.unusedSimpArgs false
set_option linter.unusedVariables false
set_option maxHeartbeats 4000000
set_option maxRecDepth 100000
namespace Go.Proofs.YtmjcpapdncfkpaaGreatDoor
open Go.RowKit
def prD (l:List ProtoD)(p:Nat):ProtoD:=l[p]?.getD ProtoD.z
def sHeadC (n:ProtoD)(p:Nat):Bool:=
 decide ((n.name.size:Int)≤40)&&sIn n.line 0 100000&&sIn n.regs 0 250&&sIn n.params 0 (if n.rest then n.regs-1 else n.regs)&&decide ((n.ups.length:Int)≤250)&&decide ((n.consts.length:Int)≤500)&&(decide (0<p)||(n.params==0&&n.ups.length==0))
theorem l6headOk_any (a:Option Addr)(l:List ProtoD)(c p:Nat)(S:Nat→Prop)(w:World)(hs:ProtosAt w S a l)(hB:∀ b,S b→b<w.heap.size)(hp:p<l.length) :
  Calls Tryz.prog 50 #[.agg #[.slice a l.length c],.int .i64 p] w fun e w'=>e=.returned (.bool (sHeadC (prD l p) p))∧Below w.heap.size w w':=by
 have hn:=hs.1
 obtain⟨b,off,rfl,hb,hcc⟩:=hs.2 (by omega)
 have N:ProtoCells w S b (off+p * 9) (prD l p):=hcc p hp
 have hbl:=hB b hb
 clear hcc hs hB
 have HBA:Hid (∀ o1 o2,Below w.heap.size w ((w.alloc o1).alloc o2)):=fun o1 o2=>((Below.refl _ _).alloc (Nat.le_refl _) o1).alloc (by simp) o2
 generalize prD l p=n at *
 obtain⟨a5,c5,h5,H5⟩:=N.ups
 obtain⟨a6,c6,h6,H6⟩:=N.consts
 obtain⟨a7,c7,h7,H7⟩:=N.ins
 obtain⟨a8,c8,h8,H8⟩:=N.named
 have c0:=N.name;have c1:=N.line;have c2:=N.params;have c3:=N.rest;have c4:=N.regs
 have hns:=N.names
 have hu:=H5.1;have hcl:=H6.1;have hil:=H7.1;have hnl:=H8.1
 clear N H5 H6 H7 H8
 obtain⟨nm,ln,pr,rs,rg,us,cs,is,ns⟩:=n
 simp only at *
 cases rs
 ·have E:Hid (sHeadC ⟨nm,ln,pr,false,rg,us,cs,is,ns⟩ p=(decide ((nm.size:Int)≤40)&&sIn ln 0 100000&&sIn rg 0 250&&sIn pr 0 (rg)&&decide ((us.length:Int)≤250)&&decide ((cs.length:Int)≤500)&&(decide (0<p)||(pr==0&&us.length==0)))):=rfl
  generalize sHeadC ⟨nm,ln,pr,false,rg,us,cs,is,ns⟩ p=res at *
  by_cases q0:(nm.size:Int)≤40
  ·skip
   cases q1:sIn ln 0 100000
   ·have R:Hid (false=res):=by show _=_;rw[E.out];simp[q1]
    have Q1:=hide q1;clear q1
    clear E
    go_enter Tryz.func50,Tryz.ntmps50
    go_wp2_with fail
    refine(l6in_any _ _ _ _).mono ?_
    rintro e w' ⟨rfl,rfl⟩
    rw[Q1.out]
    go_wp2_with fail
    go_ret
    refine⟨ret_bool ?_,unhide HBA _ _⟩
    first | exact unhide R | (rw[←unhide R];simp;omega) | (rw[←unhide R];simp)
   ·have Q1:=hide q1;clear q1
    cases q2:sIn rg 0 250
    ·have R:Hid (false=res):=by show _=_;rw[E.out];simp[q2]
     have Q2:=hide q2;clear q2
     clear E
     go_enter Tryz.func50,Tryz.ntmps50
     go_wp2_with fail
     refine(l6in_any _ _ _ _).mono ?_
     rintro e w' ⟨rfl,rfl⟩
     rw[Q1.out]
     go_wp2_with fail
     refine(l6in_any _ _ _ _).mono ?_
     rintro e w' ⟨rfl,rfl⟩
     rw[Q2.out]
     go_wp2_with fail
     go_ret
     refine⟨ret_bool ?_,unhide HBA _ _⟩
     first | exact unhide R | (rw[←unhide R];simp;omega) | (rw[←unhide R];simp)
    ·have Q2:=hide q2;clear q2
     have hrg:=sIn_true Q2.out
     cases q3:sIn pr 0 (rg)
     ·have R:Hid (false=res):=by show _=_;rw[E.out];simp[q3]
      have Q3:=hide q3;clear q3
      clear E
      go_enter Tryz.func50,Tryz.ntmps50
      go_wp2_with fail
      refine(l6in_any _ _ _ _).mono ?_
      rintro e w' ⟨rfl,rfl⟩
      rw[Q1.out]
      go_wp2_with fail
      refine(l6in_any _ _ _ _).mono ?_
      rintro e w' ⟨rfl,rfl⟩
      rw[Q2.out]
      go_wp2_with fail
      refine(l6in_any _ _ _ _).mono ?_
      rintro e w' ⟨rfl,rfl⟩
      rw[Q3.out]
      go_wp2_with fail
      go_ret
      refine⟨ret_bool ?_,unhide HBA _ _⟩
      first | exact unhide R | (rw[←unhide R];simp;omega) | (rw[←unhide R];simp)
     ·have Q3:=hide q3;clear q3
      by_cases q4:(us.length:Int)≤250
      ·skip
       by_cases q5:(cs.length:Int)≤500
       ·skip
        by_cases t0:0<p
        ·have R:Hid (true=res):=by show _=_;rw[E.out];simp[q0,Q1.out,Q2.out,Q3.out,q4,q5,t0]
         have t0i:(0:Int)<(p:Int):=by omega
         clear E
         go_enter Tryz.func50,Tryz.ntmps50
         go_wp2_with fail
         refine(l6in_any _ _ _ _).mono ?_
         rintro e w' ⟨rfl,rfl⟩
         rw[Q1.out]
         go_wp2_with fail
         refine(l6in_any _ _ _ _).mono ?_
         rintro e w' ⟨rfl,rfl⟩
         rw[Q2.out]
         go_wp2_with fail
         refine(l6in_any _ _ _ _).mono ?_
         rintro e w' ⟨rfl,rfl⟩
         rw[Q3.out]
         go_wp2_with fail
         go_ret
         refine⟨ret_bool ?_,unhide HBA _ _⟩
         first | exact unhide R | (rw[←unhide R];simp;omega) | (rw[←unhide R];simp)
        have t0i:¬(0:Int)<(p:Int):=by omega
        by_cases t1:pr=0
        ·by_cases t2:us.length=0
         ·have R:Hid (true=res):=by show _=_;rw[E.out,show(us.length==0)=true from by rw[t2];rfl,show(pr==0)=true from by simpa using t1];simp[q0,Q1.out,Q2.out,Q3.out,q4,q5,t0]
          have t1b:(pr==0)=true:=by simpa using t1
          have t2b:((us.length:Int)==0)=true:=by rw[t2];rfl
          clear t1 t2
          clear E
          go_enter Tryz.func50,Tryz.ntmps50
          go_wp2_with fail
          refine(l6in_any _ _ _ _).mono ?_
          rintro e w' ⟨rfl,rfl⟩
          rw[Q1.out]
          go_wp2_with fail
          refine(l6in_any _ _ _ _).mono ?_
          rintro e w' ⟨rfl,rfl⟩
          rw[Q2.out]
          go_wp2_with fail
          refine(l6in_any _ _ _ _).mono ?_
          rintro e w' ⟨rfl,rfl⟩
          rw[Q3.out]
          go_wp2_with fail
          go_ret
          refine⟨ret_bool ?_,unhide HBA _ _⟩
          first | exact unhide R | (rw[←unhide R];simp;omega) | (rw[←unhide R];simp)
         ·have R:Hid (false=res):=by show _=_;rw[E.out,show(us.length==0)=false from beq_eq_false_iff_ne.2 t2];simp[q0,Q1.out,Q2.out,Q3.out,q4,q5,t0]
          have t1b:(pr==0)=true:=by simpa using t1
          have t2b:((us.length:Int)==0)=false:=beq_eq_false_iff_ne.2 (by omega)
          clear t1 t2
          clear E
          go_enter Tryz.func50,Tryz.ntmps50
          go_wp2_with fail
          refine(l6in_any _ _ _ _).mono ?_
          rintro e w' ⟨rfl,rfl⟩
          rw[Q1.out]
          go_wp2_with fail
          refine(l6in_any _ _ _ _).mono ?_
          rintro e w' ⟨rfl,rfl⟩
          rw[Q2.out]
          go_wp2_with fail
          refine(l6in_any _ _ _ _).mono ?_
          rintro e w' ⟨rfl,rfl⟩
          rw[Q3.out]
          go_wp2_with fail
          go_ret
          refine⟨ret_bool ?_,unhide HBA _ _⟩
          first | exact unhide R | (rw[←unhide R];simp;omega) | (rw[←unhide R];simp)
        ·have R:Hid (false=res):=by show _=_;rw[E.out];simp[q0,Q1.out,Q2.out,Q3.out,q4,q5,t0,t1]
         have t1b:(pr==0)=false:=by simpa using t1
         clear t1
         clear E
         go_enter Tryz.func50,Tryz.ntmps50
         go_wp2_with fail
         refine(l6in_any _ _ _ _).mono ?_
         rintro e w' ⟨rfl,rfl⟩
         rw[Q1.out]
         go_wp2_with fail
         refine(l6in_any _ _ _ _).mono ?_
         rintro e w' ⟨rfl,rfl⟩
         rw[Q2.out]
         go_wp2_with fail
         refine(l6in_any _ _ _ _).mono ?_
         rintro e w' ⟨rfl,rfl⟩
         rw[Q3.out]
         go_wp2_with fail
         go_ret
         refine⟨ret_bool ?_,unhide HBA _ _⟩
         first | exact unhide R | (rw[←unhide R];simp;omega) | (rw[←unhide R];simp)
       ·have R:Hid (false=res):=by show _=_;rw[E.out];simp[q5]
        clear E
        go_enter Tryz.func50,Tryz.ntmps50
        go_wp2_with fail
        refine(l6in_any _ _ _ _).mono ?_
        rintro e w' ⟨rfl,rfl⟩
        rw[Q1.out]
        go_wp2_with fail
        refine(l6in_any _ _ _ _).mono ?_
        rintro e w' ⟨rfl,rfl⟩
        rw[Q2.out]
        go_wp2_with fail
        refine(l6in_any _ _ _ _).mono ?_
        rintro e w' ⟨rfl,rfl⟩
        rw[Q3.out]
        go_wp2_with fail
        go_ret
        refine⟨ret_bool ?_,unhide HBA _ _⟩
        first | exact unhide R | (rw[←unhide R];simp;omega) | (rw[←unhide R];simp)
      ·have R:Hid (false=res):=by show _=_;rw[E.out];simp[q4]
       clear E
       go_enter Tryz.func50,Tryz.ntmps50
       go_wp2_with fail
       refine(l6in_any _ _ _ _).mono ?_
       rintro e w' ⟨rfl,rfl⟩
       rw[Q1.out]
       go_wp2_with fail
       refine(l6in_any _ _ _ _).mono ?_
       rintro e w' ⟨rfl,rfl⟩
       rw[Q2.out]
       go_wp2_with fail
       refine(l6in_any _ _ _ _).mono ?_
       rintro e w' ⟨rfl,rfl⟩
       rw[Q3.out]
       go_wp2_with fail
       go_ret
       refine⟨ret_bool ?_,unhide HBA _ _⟩
       first | exact unhide R | (rw[←unhide R];simp;omega) | (rw[←unhide R];simp)
  ·have R:Hid (false=res):=by show _=_;rw[E.out];simp[q0]
   clear E
   go_enter Tryz.func50,Tryz.ntmps50
   go_wp2_with fail
   go_ret
   refine⟨ret_bool ?_,unhide HBA _ _⟩
   first | exact unhide R | (rw[←unhide R];simp;omega) | (rw[←unhide R];simp)
 ·have E:Hid (sHeadC ⟨nm,ln,pr,true,rg,us,cs,is,ns⟩ p=(decide ((nm.size:Int)≤40)&&sIn ln 0 100000&&sIn rg 0 250&&sIn pr 0 (rg-1)&&decide ((us.length:Int)≤250)&&decide ((cs.length:Int)≤500)&&(decide (0<p)||(pr==0&&us.length==0)))):=rfl
  generalize sHeadC ⟨nm,ln,pr,true,rg,us,cs,is,ns⟩ p=res at *
  by_cases q0:(nm.size:Int)≤40
  ·skip
   cases q1:sIn ln 0 100000
   ·have R:Hid (false=res):=by show _=_;rw[E.out];simp[q1]
    have Q1:=hide q1;clear q1
    clear E
    go_enter Tryz.func50,Tryz.ntmps50
    go_wp2_with fail
    refine(l6in_any _ _ _ _).mono ?_
    rintro e w' ⟨rfl,rfl⟩
    rw[Q1.out]
    go_wp2_with fail
    go_ret
    refine⟨ret_bool ?_,unhide HBA _ _⟩
    first | exact unhide R | (rw[←unhide R];simp;omega) | (rw[←unhide R];simp)
   ·have Q1:=hide q1;clear q1
    cases q2:sIn rg 0 250
    ·have R:Hid (false=res):=by show _=_;rw[E.out];simp[q2]
     have Q2:=hide q2;clear q2
     clear E
     go_enter Tryz.func50,Tryz.ntmps50
     go_wp2_with fail
     refine(l6in_any _ _ _ _).mono ?_
     rintro e w' ⟨rfl,rfl⟩
     rw[Q1.out]
     go_wp2_with fail
     refine(l6in_any _ _ _ _).mono ?_
     rintro e w' ⟨rfl,rfl⟩
     rw[Q2.out]
     go_wp2_with fail
     go_ret
     refine⟨ret_bool ?_,unhide HBA _ _⟩
     first | exact unhide R | (rw[←unhide R];simp;omega) | (rw[←unhide R];simp)
    ·have Q2:=hide q2;clear q2
     have hrg:=sIn_true Q2.out
     cases q3:sIn pr 0 (rg-1)
     ·have R:Hid (false=res):=by show _=_;rw[E.out];simp[q3]
      have Q3:=hide q3;clear q3
      clear E
      go_enter Tryz.func50,Tryz.ntmps50
      go_wp2_with fail
      refine(l6in_any _ _ _ _).mono ?_
      rintro e w' ⟨rfl,rfl⟩
      rw[Q1.out]
      go_wp2_with fail
      refine(l6in_any _ _ _ _).mono ?_
      rintro e w' ⟨rfl,rfl⟩
      rw[Q2.out]
      go_wp2_with fail
      refine(l6in_any _ _ _ _).mono ?_
      rintro e w' ⟨rfl,rfl⟩
      rw[Q3.out]
      go_wp2_with fail
      go_ret
      refine⟨ret_bool ?_,unhide HBA _ _⟩
      first | exact unhide R | (rw[←unhide R];simp;omega) | (rw[←unhide R];simp)
     ·have Q3:=hide q3;clear q3
      by_cases q4:(us.length:Int)≤250
      ·skip
       by_cases q5:(cs.length:Int)≤500
       ·skip
        by_cases t0:0<p
        ·have R:Hid (true=res):=by show _=_;rw[E.out];simp[q0,Q1.out,Q2.out,Q3.out,q4,q5,t0]
         have t0i:(0:Int)<(p:Int):=by omega
         clear E
         go_enter Tryz.func50,Tryz.ntmps50
         go_wp2_with fail
         refine(l6in_any _ _ _ _).mono ?_
         rintro e w' ⟨rfl,rfl⟩
         rw[Q1.out]
         go_wp2_with fail
         refine(l6in_any _ _ _ _).mono ?_
         rintro e w' ⟨rfl,rfl⟩
         rw[Q2.out]
         go_wp2_with fail
         refine(l6in_any _ _ _ _).mono ?_
         rintro e w' ⟨rfl,rfl⟩
         rw[Q3.out]
         go_wp2_with fail
         go_ret
         refine⟨ret_bool ?_,unhide HBA _ _⟩
         first | exact unhide R | (rw[←unhide R];simp;omega) | (rw[←unhide R];simp)
        have t0i:¬(0:Int)<(p:Int):=by omega
        by_cases t1:pr=0
        ·by_cases t2:us.length=0
         ·have R:Hid (true=res):=by show _=_;rw[E.out,show(us.length==0)=true from by rw[t2];rfl,show(pr==0)=true from by simpa using t1];simp[q0,Q1.out,Q2.out,Q3.out,q4,q5,t0]
          have t1b:(pr==0)=true:=by simpa using t1
          have t2b:((us.length:Int)==0)=true:=by rw[t2];rfl
          clear t1 t2
          clear E
          go_enter Tryz.func50,Tryz.ntmps50
          go_wp2_with fail
          refine(l6in_any _ _ _ _).mono ?_
          rintro e w' ⟨rfl,rfl⟩
          rw[Q1.out]
          go_wp2_with fail
          refine(l6in_any _ _ _ _).mono ?_
          rintro e w' ⟨rfl,rfl⟩
          rw[Q2.out]
          go_wp2_with fail
          refine(l6in_any _ _ _ _).mono ?_
          rintro e w' ⟨rfl,rfl⟩
          rw[Q3.out]
          go_wp2_with fail
          go_ret
          refine⟨ret_bool ?_,unhide HBA _ _⟩
          first | exact unhide R | (rw[←unhide R];simp;omega) | (rw[←unhide R];simp)
         ·have R:Hid (false=res):=by show _=_;rw[E.out,show(us.length==0)=false from beq_eq_false_iff_ne.2 t2];simp[q0,Q1.out,Q2.out,Q3.out,q4,q5,t0]
          have t1b:(pr==0)=true:=by simpa using t1
          have t2b:((us.length:Int)==0)=false:=beq_eq_false_iff_ne.2 (by omega)
          clear t1 t2
          clear E
          go_enter Tryz.func50,Tryz.ntmps50
          go_wp2_with fail
          refine(l6in_any _ _ _ _).mono ?_
          rintro e w' ⟨rfl,rfl⟩
          rw[Q1.out]
          go_wp2_with fail
          refine(l6in_any _ _ _ _).mono ?_
          rintro e w' ⟨rfl,rfl⟩
          rw[Q2.out]
          go_wp2_with fail
          refine(l6in_any _ _ _ _).mono ?_
          rintro e w' ⟨rfl,rfl⟩
          rw[Q3.out]
          go_wp2_with fail
          go_ret
          refine⟨ret_bool ?_,unhide HBA _ _⟩
          first | exact unhide R | (rw[←unhide R];simp;omega) | (rw[←unhide R];simp)
        ·have R:Hid (false=res):=by show _=_;rw[E.out];simp[q0,Q1.out,Q2.out,Q3.out,q4,q5,t0,t1]
         have t1b:(pr==0)=false:=by simpa using t1
         clear t1
         clear E
         go_enter Tryz.func50,Tryz.ntmps50
         go_wp2_with fail
         refine(l6in_any _ _ _ _).mono ?_
         rintro e w' ⟨rfl,rfl⟩
         rw[Q1.out]
         go_wp2_with fail
         refine(l6in_any _ _ _ _).mono ?_
         rintro e w' ⟨rfl,rfl⟩
         rw[Q2.out]
         go_wp2_with fail
         refine(l6in_any _ _ _ _).mono ?_
         rintro e w' ⟨rfl,rfl⟩
         rw[Q3.out]
         go_wp2_with fail
         go_ret
         refine⟨ret_bool ?_,unhide HBA _ _⟩
         first | exact unhide R | (rw[←unhide R];simp;omega) | (rw[←unhide R];simp)
       ·have R:Hid (false=res):=by show _=_;rw[E.out];simp[q5]
        clear E
        go_enter Tryz.func50,Tryz.ntmps50
        go_wp2_with fail
        refine(l6in_any _ _ _ _).mono ?_
        rintro e w' ⟨rfl,rfl⟩
        rw[Q1.out]
        go_wp2_with fail
        refine(l6in_any _ _ _ _).mono ?_
        rintro e w' ⟨rfl,rfl⟩
        rw[Q2.out]
        go_wp2_with fail
        refine(l6in_any _ _ _ _).mono ?_
        rintro e w' ⟨rfl,rfl⟩
        rw[Q3.out]
        go_wp2_with fail
        go_ret
        refine⟨ret_bool ?_,unhide HBA _ _⟩
        first | exact unhide R | (rw[←unhide R];simp;omega) | (rw[←unhide R];simp)
      ·have R:Hid (false=res):=by show _=_;rw[E.out];simp[q4]
       clear E
       go_enter Tryz.func50,Tryz.ntmps50
       go_wp2_with fail
       refine(l6in_any _ _ _ _).mono ?_
       rintro e w' ⟨rfl,rfl⟩
       rw[Q1.out]
       go_wp2_with fail
       refine(l6in_any _ _ _ _).mono ?_
       rintro e w' ⟨rfl,rfl⟩
       rw[Q2.out]
       go_wp2_with fail
       refine(l6in_any _ _ _ _).mono ?_
       rintro e w' ⟨rfl,rfl⟩
       rw[Q3.out]
       go_wp2_with fail
       go_ret
       refine⟨ret_bool ?_,unhide HBA _ _⟩
       first | exact unhide R | (rw[←unhide R];simp;omega) | (rw[←unhide R];simp)
  ·have R:Hid (false=res):=by show _=_;rw[E.out];simp[q0]
   clear E
   go_enter Tryz.func50,Tryz.ntmps50
   go_wp2_with fail
   go_ret
   refine⟨ret_bool ?_,unhide HBA _ _⟩
   first | exact unhide R | (rw[←unhide R];simp;omega) | (rw[←unhide R];simp)
end Go.Proofs.YtmjcpapdncfkpaaGreatDoor

import Derived.Test.YtmjcpapdncfkpaaGreatDoorPart03
import Derived.BigQuiet
set_option linter.unusedSimpArgs false
set_option linter.unusedVariables false
set_option maxHeartbeats 2000000
set_option maxRecDepth 100000
namespace Go.Proofs.YtmjcpapdncfkpaaGreatDoor
open Go.RowKit
theorem ret_bool {a b:Bool}(h:a=b):Ending.returned (.bool a)=.returned (.bool b):=by rw[h]
def sIn (x lo hi:Int):Bool:=decide (lo≤x)&&decide (x≤hi)
theorem sIn_true {x lo hi:Int}(h:sIn x lo hi=true):lo≤x∧x≤hi:=by
 unfold sIn at h
 rw[Bool.and_eq_true]at h
 exact⟨of_decide_eq_true h.1,of_decide_eq_true h.2⟩
theorem l6in_any (x lo hi:Int)(w:World):Calls Tryz.prog 54 #[.int .i64 x,.int .i64 lo,.int .i64 hi] w fun e w'=>e=.returned (.bool (sIn x lo hi))∧w'=w:=by
 by_cases h1:lo≤x
 ·go_enter Tryz.func54,Tryz.ntmps54
  go_wp2
  go_ret
  exact⟨by simp[sIn,h1],rfl⟩
 ·go_enter Tryz.func54,Tryz.ntmps54
  go_wp2
  go_ret
  exact⟨by simp[sIn];omega,rfl⟩
theorem l6fault_any (c p i:Int)(w:World):Calls Tryz.prog 21 #[.int .i64 c,.int .i64 p,.int .i64 i] w fun e w'=>e=.returned (.agg #[.int .i64 c,.int .i64 p,.int .i64 i])∧Below w.heap.size w w':=by
 go_enter Tryz.func21,Tryz.ntmps21
 go_wp2_with fail
 exact bodyPost_ret (v:=.agg #[.int .i64 c,.int .i64 p,.int .i64 i]) (by simp[results,Tryz.results21,go_sem]) rfl ⟨rfl,by repeat (first | refine Below.alloc ?_ (by simp<;>omega) _ | exact Below.refl _ _)⟩
def sNamed (rg:Int)(ni:Nat)(n:NamD)(i:Nat):Bool:=
 decide ((i:Int)<500)&&sIn n.name.size 1 40&&sIn n.reg 0 (rg-1)&&decide (0≤n.fro)&&decide (n.fro≤n.til)&&decide (n.til≤ni)
theorem l6namedOk_any (nm:ByteArray)(ln pr:Int)(rs:Bool)(rg:Int)(us:List (Bool×Int))(cs:List ValD)(is:List InsD)(ns:List NamD)(a5 a6 a7 a8:Option Addr)(c5 c6 c7 c8:Nat)(i:Nat)(S:Nat→Prop)(w:World)(h8:NamsAt w S a8 ns)(hB:∀ b,S b→b<w.heap.size)(hi:i<ns.length)(hrg:0≤rg∧rg≤250)(hil:is.length≤9223372036854775807) :
  Calls Tryz.prog 52 #[.agg #[.string nm,.int .i64 ln,.int .i64 pr,.bool rs,.int .i64 rg,.slice a5 us.length c5,.slice a6 cs.length c6,.slice a7 is.length c7,.slice a8 ns.length c8],.int .i64 i] w fun e w'=>e=.returned (.bool (sNamed rg is.length (ns[i]?.getD NamD.z) i))∧Below w.heap.size w w':=by
 have hn:=h8.1
 obtain⟨b,off,rfl,hb,hcc⟩:=h8.2 (by omega)
 have N:=hcc i hi
 have hbl:=hB b hb
 clear hcc h8 hB
 have HBA:Hid (∀ o1 o2,Below w.heap.size w ((w.alloc o1).alloc o2)):=fun o1 o2=>((Below.refl _ _).alloc (Nat.le_refl _) o1).alloc (by simp) o2
 obtain⟨hr0,hr1⟩:=hrg
 generalize ns[i]?.getD NamD.z=n at *
 have c0:=N.name;have c1:=N.reg;have c2:=N.fro;have c3:=N.til
 have hns:=N.names
 clear N
 obtain⟨name,reg,fro,til⟩:=n
 simp only at *
 have E:Hid (sNamed rg is.length ⟨name,reg,fro,til⟩ i=(decide ((i:Int)<500)&&sIn name.size 1 40&&sIn reg 0 (rg-1)&&decide (0≤fro)&&decide (fro≤til)&&decide (til≤is.length))):=rfl
 generalize sNamed rg is.length ⟨name,reg,fro,til⟩ i=res at *
 by_cases q0:(i:Int)<500
 ·skip
  cases q1:sIn name.size 1 40
  ·have R:Hid (false=res):=by show _=_;rw[E.out];simp[q1]
   have Q1:=hide q1;clear q1
   clear E
   go_enter Tryz.func52,Tryz.ntmps52
   go_wp2_with fail
   refine(l6in_any _ _ _ _).mono ?_
   rintro e w' ⟨rfl,rfl⟩
   rw[Q1.out]
   go_wp2_with fail
   go_ret
   refine⟨ret_bool ?_,unhide HBA _ _⟩
   first | exact unhide R | (rw[←unhide R];simp;omega)
  ·have Q1:=hide q1;clear q1
   cases q2:sIn reg 0 (rg-1)
   ·have R:Hid (false=res):=by show _=_;rw[E.out];simp[q2]
    have Q2:=hide q2;clear q2
    clear E
    go_enter Tryz.func52,Tryz.ntmps52
    go_wp2_with fail
    refine(l6in_any _ _ _ _).mono ?_
    rintro e w' ⟨rfl,rfl⟩
    rw[Q1.out]
    go_wp2_with fail
    refine(l6in_any _ _ _ _).mono ?_
    rintro e w' ⟨rfl,rfl⟩
    rw[Q2.out]
    go_wp2_with fail
    go_ret
    refine⟨ret_bool ?_,unhide HBA _ _⟩
    first | exact unhide R | (rw[←unhide R];simp;omega)
   ·have Q2:=hide q2;clear q2
    by_cases q3:0≤fro
    ·skip
     by_cases q4:fro≤til
     ·skip
      by_cases q5:til≤is.length
      ·skip
       have R:Hid (true=res):=by show _=_;rw[E.out];simp[q0,Q1.out,Q2.out,q3,q4,q5]
       clear E
       go_enter Tryz.func52,Tryz.ntmps52
       go_wp2_with fail
       refine(l6in_any _ _ _ _).mono ?_
       rintro e w' ⟨rfl,rfl⟩
       rw[Q1.out]
       go_wp2_with fail
       refine(l6in_any _ _ _ _).mono ?_
       rintro e w' ⟨rfl,rfl⟩
       rw[Q2.out]
       go_wp2_with fail
       go_ret
       refine⟨ret_bool ?_,unhide HBA _ _⟩
       first | exact unhide R | (rw[←unhide R];simp;omega)
      ·have R:Hid (false=res):=by show _=_;rw[E.out];simp[q5]
       clear E
       go_enter Tryz.func52,Tryz.ntmps52
       go_wp2_with fail
       refine(l6in_any _ _ _ _).mono ?_
       rintro e w' ⟨rfl,rfl⟩
       rw[Q1.out]
       go_wp2_with fail
       refine(l6in_any _ _ _ _).mono ?_
       rintro e w' ⟨rfl,rfl⟩
       rw[Q2.out]
       go_wp2_with fail
       go_ret
       refine⟨ret_bool ?_,unhide HBA _ _⟩
       first | exact unhide R | (rw[←unhide R];simp;omega)
     ·have R:Hid (false=res):=by show _=_;rw[E.out];simp[q4]
      clear E
      go_enter Tryz.func52,Tryz.ntmps52
      go_wp2_with fail
      refine(l6in_any _ _ _ _).mono ?_
      rintro e w' ⟨rfl,rfl⟩
      rw[Q1.out]
      go_wp2_with fail
      refine(l6in_any _ _ _ _).mono ?_
      rintro e w' ⟨rfl,rfl⟩
      rw[Q2.out]
      go_wp2_with fail
      go_ret
      refine⟨ret_bool ?_,unhide HBA _ _⟩
      first | exact unhide R | (rw[←unhide R];simp;omega)
    ·have R:Hid (false=res):=by show _=_;rw[E.out];simp[q3]
     clear E
     go_enter Tryz.func52,Tryz.ntmps52
     go_wp2_with fail
     refine(l6in_any _ _ _ _).mono ?_
     rintro e w' ⟨rfl,rfl⟩
     rw[Q1.out]
     go_wp2_with fail
     refine(l6in_any _ _ _ _).mono ?_
     rintro e w' ⟨rfl,rfl⟩
     rw[Q2.out]
     go_wp2_with fail
     go_ret
     refine⟨ret_bool ?_,unhide HBA _ _⟩
     first | exact unhide R | (rw[←unhide R];simp;omega)
 ·have R:Hid (false=res):=by show _=_;rw[E.out];simp[q0]
  clear E
  go_enter Tryz.func52,Tryz.ntmps52
  go_wp2_with fail
  go_ret
  refine⟨ret_bool ?_,unhide HBA _ _⟩
  first | exact unhide R | (rw[←unhide R];simp;omega)
end Go.Proofs.YtmjcpapdncfkpaaGreatDoor

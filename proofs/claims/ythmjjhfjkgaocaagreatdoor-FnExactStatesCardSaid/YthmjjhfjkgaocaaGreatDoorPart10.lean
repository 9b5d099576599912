import Derived.Test.YthmjjhfjkgaocaaGreatDoorPart09
set_option linter.unusedSimpArgs false
set_option linter.unusedVariables false
set_option maxHeartbeats 4000000
set_option maxRecDepth 100000
namespace Go.Proofs.YthmjjhfjkgaocaaGreatDoor
open Go.RowKit
def sValueOk (n:ValD):Bool:=
 if n.kind=0 then zeroV n false false false false
 else if n.kind=1 then zeroV n true false false false&&(n.num==0||n.num==1)
 else if n.kind=2 then zeroV n true false false false
 else if n.kind=3 then zeroV n false true false false
 else if n.kind=4 then zeroV n false false true false&&decide ((n.str.size:Int)≤4000)
 else if n.kind=5 then zeroV n false false false true&&decide (0≤n.ref)
 else if n.kind=6 then zeroV n false false false true&&decide (0≤n.ref)
 else if n.kind=7 then zeroV n false false false true&&decide (0≤n.ref)
 else if n.kind=8 then zeroV n true false false false&&decide (0≤n.num)&&decide (n.num<15)
 else false
theorem valueOk_0 (num:Int)(flt:Nat)(str:ByteArray)(ref:Int)(w:World)(hs:str.size≤9223372036854775807) :
  Calls Tryz.prog 126 #[.agg #[.int .i64 0,.int .i64 num,.float .f64 flt,.string str,.int .i64 ref]] w fun e w'=>e=.returned (.bool (sValueOk ⟨0,num,flt,str,ref⟩))∧Below w.heap.size w w':=by
 have hbA:∀ o,Below w.heap.size w (w.alloc o):=fun o=>(Below.refl _ _).alloc (Nat.le_refl _) o
 have E:Hid (sValueOk ⟨0,num,flt,str,ref⟩=(zeroV ⟨0,num,flt,str,ref⟩ false false false false)):=rfl
 have Z:=hide (l1zero_any 0 num flt str ref false false false false)
 generalize hz:zeroV ⟨0,num,flt,str,ref⟩ false false false false=z at *
 clear hz
 cases z
 ·skip
  have R:Hid (false=sValueOk ⟨0,num,flt,str,ref⟩):=by show _=_;rw[E.out];first | done | simp
  clear E
  go_enter Tryz.func126,Tryz.ntmps126
  go_wp2_with fail
  refine(unhide Z _).mono ?_
  rintro e w1 ⟨rfl,hb1⟩
  obtain⟨hc1,hf1⟩:=bcell hb1
  have hz1:w.heap.size<w1.heap.size:=by have:=hb1.size;simp at this;omega
  go_wp2_with fail
  go_ret
  refine⟨ret_bool ?_,(hbA _).trans (hb1.mono (by simp))⟩
  first | exact unhide R | (rw[←unhide R];simp;omega) | (rw[←unhide R];simp)
 ·skip
  have R:Hid (true=sValueOk ⟨0,num,flt,str,ref⟩):=by show _=_;rw[E.out];first | done | simp
  clear E
  go_enter Tryz.func126,Tryz.ntmps126
  go_wp2_with fail
  refine(unhide Z _).mono ?_
  rintro e w1 ⟨rfl,hb1⟩
  obtain⟨hc1,hf1⟩:=bcell hb1
  have hz1:w.heap.size<w1.heap.size:=by have:=hb1.size;simp at this;omega
  go_wp2_with fail
  go_ret
  refine⟨ret_bool ?_,(hbA _).trans (hb1.mono (by simp))⟩
  first | exact unhide R | (rw[←unhide R];simp;omega) | (rw[←unhide R];simp)
theorem valueOk_1 (num:Int)(flt:Nat)(str:ByteArray)(ref:Int)(w:World)(hs:str.size≤9223372036854775807) :
  Calls Tryz.prog 126 #[.agg #[.int .i64 1,.int .i64 num,.float .f64 flt,.string str,.int .i64 ref]] w fun e w'=>e=.returned (.bool (sValueOk ⟨1,num,flt,str,ref⟩))∧Below w.heap.size w w':=by
 have hbA:∀ o,Below w.heap.size w (w.alloc o):=fun o=>(Below.refl _ _).alloc (Nat.le_refl _) o
 have E:Hid (sValueOk ⟨1,num,flt,str,ref⟩=(zeroV ⟨1,num,flt,str,ref⟩ true false false false&&(num==0||num==1))):=rfl
 have Z:=hide (l1zero_any 1 num flt str ref true false false false)
 generalize hz:zeroV ⟨1,num,flt,str,ref⟩ true false false false=z at *
 clear hz
 cases z
 ·skip
  have R:Hid (false=sValueOk ⟨1,num,flt,str,ref⟩):=by show _=_;rw[E.out];first | done | simp
  clear E
  go_enter Tryz.func126,Tryz.ntmps126
  go_wp2_with fail
  refine(unhide Z _).mono ?_
  rintro e w1 ⟨rfl,hb1⟩
  obtain⟨hc1,hf1⟩:=bcell hb1
  have hz1:w.heap.size<w1.heap.size:=by have:=hb1.size;simp at this;omega
  go_wp2_with fail
  go_ret
  refine⟨ret_bool ?_,(hbA _).trans (hb1.mono (by simp))⟩
  first | exact unhide R | (rw[←unhide R];simp;omega) | (rw[←unhide R];simp)
 ·cases q0:num==0
  ·cases q1:num==1
   ·skip
    have R:Hid (false=sValueOk ⟨1,num,flt,str,ref⟩):=by show _=_;rw[E.out];first | done | simp[q0,q1]
    clear E
    go_enter Tryz.func126,Tryz.ntmps126
    go_wp2_with fail
    refine(unhide Z _).mono ?_
    rintro e w1 ⟨rfl,hb1⟩
    obtain⟨hc1,hf1⟩:=bcell hb1
    have hz1:w.heap.size<w1.heap.size:=by have:=hb1.size;simp at this;omega
    go_wp2_with fail
    go_ret
    refine⟨ret_bool ?_,(hbA _).trans (hb1.mono (by simp))⟩
    first | exact unhide R | (rw[←unhide R];simp;omega) | (rw[←unhide R];simp)
   ·skip
    have R:Hid (true=sValueOk ⟨1,num,flt,str,ref⟩):=by show _=_;rw[E.out];first | done | simp[q0,q1]
    clear E
    go_enter Tryz.func126,Tryz.ntmps126
    go_wp2_with fail
    refine(unhide Z _).mono ?_
    rintro e w1 ⟨rfl,hb1⟩
    obtain⟨hc1,hf1⟩:=bcell hb1
    have hz1:w.heap.size<w1.heap.size:=by have:=hb1.size;simp at this;omega
    go_wp2_with fail
    go_ret
    refine⟨ret_bool ?_,(hbA _).trans (hb1.mono (by simp))⟩
    first | exact unhide R | (rw[←unhide R];simp;omega) | (rw[←unhide R];simp)
  ·skip
   have R:Hid (true=sValueOk ⟨1,num,flt,str,ref⟩):=by show _=_;rw[E.out];first | done | simp[q0]
   clear E
   go_enter Tryz.func126,Tryz.ntmps126
   go_wp2_with fail
   refine(unhide Z _).mono ?_
   rintro e w1 ⟨rfl,hb1⟩
   obtain⟨hc1,hf1⟩:=bcell hb1
   have hz1:w.heap.size<w1.heap.size:=by have:=hb1.size;simp at this;omega
   go_wp2_with fail
   go_ret
   refine⟨ret_bool ?_,(hbA _).trans (hb1.mono (by simp))⟩
   first | exact unhide R | (rw[←unhide R];simp;omega) | (rw[←unhide R];simp)
theorem valueOk_2 (num:Int)(flt:Nat)(str:ByteArray)(ref:Int)(w:World)(hs:str.size≤9223372036854775807) :
  Calls Tryz.prog 126 #[.agg #[.int .i64 2,.int .i64 num,.float .f64 flt,.string str,.int .i64 ref]] w fun e w'=>e=.returned (.bool (sValueOk ⟨2,num,flt,str,ref⟩))∧Below w.heap.size w w':=by
 have hbA:∀ o,Below w.heap.size w (w.alloc o):=fun o=>(Below.refl _ _).alloc (Nat.le_refl _) o
 have E:Hid (sValueOk ⟨2,num,flt,str,ref⟩=(zeroV ⟨2,num,flt,str,ref⟩ true false false false)):=rfl
 have Z:=hide (l1zero_any 2 num flt str ref true false false false)
 generalize hz:zeroV ⟨2,num,flt,str,ref⟩ true false false false=z at *
 clear hz
 cases z
 ·skip
  have R:Hid (false=sValueOk ⟨2,num,flt,str,ref⟩):=by show _=_;rw[E.out];first | done | simp
  clear E
  go_enter Tryz.func126,Tryz.ntmps126
  go_wp2_with fail
  refine(unhide Z _).mono ?_
  rintro e w1 ⟨rfl,hb1⟩
  obtain⟨hc1,hf1⟩:=bcell hb1
  have hz1:w.heap.size<w1.heap.size:=by have:=hb1.size;simp at this;omega
  go_wp2_with fail
  go_ret
  refine⟨ret_bool ?_,(hbA _).trans (hb1.mono (by simp))⟩
  first | exact unhide R | (rw[←unhide R];simp;omega) | (rw[←unhide R];simp)
 ·skip
  have R:Hid (true=sValueOk ⟨2,num,flt,str,ref⟩):=by show _=_;rw[E.out];first | done | simp
  clear E
  go_enter Tryz.func126,Tryz.ntmps126
  go_wp2_with fail
  refine(unhide Z _).mono ?_
  rintro e w1 ⟨rfl,hb1⟩
  obtain⟨hc1,hf1⟩:=bcell hb1
  have hz1:w.heap.size<w1.heap.size:=by have:=hb1.size;simp at this;omega
  go_wp2_with fail
  go_ret
  refine⟨ret_bool ?_,(hbA _).trans (hb1.mono (by simp))⟩
  first | exact unhide R | (rw[←unhide R];simp;omega) | (rw[←unhide R];simp)
theorem valueOk_3 (num:Int)(flt:Nat)(str:ByteArray)(ref:Int)(w:World)(hs:str.size≤9223372036854775807) :
  Calls Tryz.prog 126 #[.agg #[.int .i64 3,.int .i64 num,.float .f64 flt,.string str,.int .i64 ref]] w fun e w'=>e=.returned (.bool (sValueOk ⟨3,num,flt,str,ref⟩))∧Below w.heap.size w w':=by
 have hbA:∀ o,Below w.heap.size w (w.alloc o):=fun o=>(Below.refl _ _).alloc (Nat.le_refl _) o
 have E:Hid (sValueOk ⟨3,num,flt,str,ref⟩=(zeroV ⟨3,num,flt,str,ref⟩ false true false false)):=rfl
 have Z:=hide (l1zero_any 3 num flt str ref false true false false)
 generalize hz:zeroV ⟨3,num,flt,str,ref⟩ false true false false=z at *
 clear hz
 cases z
 ·skip
  have R:Hid (false=sValueOk ⟨3,num,flt,str,ref⟩):=by show _=_;rw[E.out];first | done | simp
  clear E
  go_enter Tryz.func126,Tryz.ntmps126
  go_wp2_with fail
  refine(unhide Z _).mono ?_
  rintro e w1 ⟨rfl,hb1⟩
  obtain⟨hc1,hf1⟩:=bcell hb1
  have hz1:w.heap.size<w1.heap.size:=by have:=hb1.size;simp at this;omega
  go_wp2_with fail
  go_ret
  refine⟨ret_bool ?_,(hbA _).trans (hb1.mono (by simp))⟩
  first | exact unhide R | (rw[←unhide R];simp;omega) | (rw[←unhide R];simp)
 ·skip
  have R:Hid (true=sValueOk ⟨3,num,flt,str,ref⟩):=by show _=_;rw[E.out];first | done | simp
  clear E
  go_enter Tryz.func126,Tryz.ntmps126
  go_wp2_with fail
  refine(unhide Z _).mono ?_
  rintro e w1 ⟨rfl,hb1⟩
  obtain⟨hc1,hf1⟩:=bcell hb1
  have hz1:w.heap.size<w1.heap.size:=by have:=hb1.size;simp at this;omega
  go_wp2_with fail
  go_ret
  refine⟨ret_bool ?_,(hbA _).trans (hb1.mono (by simp))⟩
  first | exact unhide R | (rw[←unhide R];simp;omega) | (rw[←unhide R];simp)
theorem valueOk_4 (num:Int)(flt:Nat)(str:ByteArray)(ref:Int)(w:World)(hs:str.size≤9223372036854775807) :
  Calls Tryz.prog 126 #[.agg #[.int .i64 4,.int .i64 num,.float .f64 flt,.string str,.int .i64 ref]] w fun e w'=>e=.returned (.bool (sValueOk ⟨4,num,flt,str,ref⟩))∧Below w.heap.size w w':=by
 have hbA:∀ o,Below w.heap.size w (w.alloc o):=fun o=>(Below.refl _ _).alloc (Nat.le_refl _) o
 have E:Hid (sValueOk ⟨4,num,flt,str,ref⟩=(zeroV ⟨4,num,flt,str,ref⟩ false false true false&&decide ((str.size:Int)≤4000))):=rfl
 have Z:=hide (l1zero_any 4 num flt str ref false false true false)
 generalize hz:zeroV ⟨4,num,flt,str,ref⟩ false false true false=z at *
 clear hz
 cases z
 ·skip
  have R:Hid (false=sValueOk ⟨4,num,flt,str,ref⟩):=by show _=_;rw[E.out];first | done | simp
  clear E
  go_enter Tryz.func126,Tryz.ntmps126
  go_wp2_with fail
  refine(unhide Z _).mono ?_
  rintro e w1 ⟨rfl,hb1⟩
  obtain⟨hc1,hf1⟩:=bcell hb1
  have hz1:w.heap.size<w1.heap.size:=by have:=hb1.size;simp at this;omega
  go_wp2_with fail
  go_ret
  refine⟨ret_bool ?_,(hbA _).trans (hb1.mono (by simp))⟩
  first | exact unhide R | (rw[←unhide R];simp;omega) | (rw[←unhide R];simp)
 ·by_cases q0:(str.size:Int)≤4000
  ·skip
   have R:Hid (true=sValueOk ⟨4,num,flt,str,ref⟩):=by show _=_;rw[E.out];first | done | simp[q0]
   clear E
   go_enter Tryz.func126,Tryz.ntmps126
   go_wp2_with fail
   refine(unhide Z _).mono ?_
   rintro e w1 ⟨rfl,hb1⟩
   obtain⟨hc1,hf1⟩:=bcell hb1
   have hz1:w.heap.size<w1.heap.size:=by have:=hb1.size;simp at this;omega
   go_wp2_with fail
   go_ret
   refine⟨ret_bool ?_,(hbA _).trans (hb1.mono (by simp))⟩
   first | exact unhide R | (rw[←unhide R];simp;omega) | (rw[←unhide R];simp)
  ·skip
   have R:Hid (false=sValueOk ⟨4,num,flt,str,ref⟩):=by show _=_;rw[E.out];first | done | simp[q0]
   clear E
   go_enter Tryz.func126,Tryz.ntmps126
   go_wp2_with fail
   refine(unhide Z _).mono ?_
   rintro e w1 ⟨rfl,hb1⟩
   obtain⟨hc1,hf1⟩:=bcell hb1
   have hz1:w.heap.size<w1.heap.size:=by have:=hb1.size;simp at this;omega
   go_wp2_with fail
   go_ret
   refine⟨ret_bool ?_,(hbA _).trans (hb1.mono (by simp))⟩
   first | exact unhide R | (rw[←unhide R];simp;omega) | (rw[←unhide R];simp)
theorem valueOk_5 (num:Int)(flt:Nat)(str:ByteArray)(ref:Int)(w:World)(hs:str.size≤9223372036854775807) :
  Calls Tryz.prog 126 #[.agg #[.int .i64 5,.int .i64 num,.float .f64 flt,.string str,.int .i64 ref]] w fun e w'=>e=.returned (.bool (sValueOk ⟨5,num,flt,str,ref⟩))∧Below w.heap.size w w':=by
 have hbA:∀ o,Below w.heap.size w (w.alloc o):=fun o=>(Below.refl _ _).alloc (Nat.le_refl _) o
 have E:Hid (sValueOk ⟨5,num,flt,str,ref⟩=(zeroV ⟨5,num,flt,str,ref⟩ false false false true&&decide (0≤ref))):=rfl
 have Z:=hide (l1zero_any 5 num flt str ref false false false true)
 generalize hz:zeroV ⟨5,num,flt,str,ref⟩ false false false true=z at *
 clear hz
 cases z
 ·skip
  have R:Hid (false=sValueOk ⟨5,num,flt,str,ref⟩):=by show _=_;rw[E.out];first | done | simp
  clear E
  go_enter Tryz.func126,Tryz.ntmps126
  go_wp2_with fail
  refine(unhide Z _).mono ?_
  rintro e w1 ⟨rfl,hb1⟩
  obtain⟨hc1,hf1⟩:=bcell hb1
  have hz1:w.heap.size<w1.heap.size:=by have:=hb1.size;simp at this;omega
  go_wp2_with fail
  go_ret
  refine⟨ret_bool ?_,(hbA _).trans (hb1.mono (by simp))⟩
  first | exact unhide R | (rw[←unhide R];simp;omega) | (rw[←unhide R];simp)
 ·by_cases q0:0≤ref
  ·skip
   have R:Hid (true=sValueOk ⟨5,num,flt,str,ref⟩):=by show _=_;rw[E.out];first | done | simp[q0]
   clear E
   go_enter Tryz.func126,Tryz.ntmps126
   go_wp2_with fail
   refine(unhide Z _).mono ?_
   rintro e w1 ⟨rfl,hb1⟩
   obtain⟨hc1,hf1⟩:=bcell hb1
   have hz1:w.heap.size<w1.heap.size:=by have:=hb1.size;simp at this;omega
   go_wp2_with fail
   go_ret
   refine⟨ret_bool ?_,(hbA _).trans (hb1.mono (by simp))⟩
   first | exact unhide R | (rw[←unhide R];simp;omega) | (rw[←unhide R];simp)
  ·skip
   have R:Hid (false=sValueOk ⟨5,num,flt,str,ref⟩):=by show _=_;rw[E.out];first | done | simp[q0]
   clear E
   go_enter Tryz.func126,Tryz.ntmps126
   go_wp2_with fail
   refine(unhide Z _).mono ?_
   rintro e w1 ⟨rfl,hb1⟩
   obtain⟨hc1,hf1⟩:=bcell hb1
   have hz1:w.heap.size<w1.heap.size:=by have:=hb1.size;simp at this;omega
   go_wp2_with fail
   go_ret
   refine⟨ret_bool ?_,(hbA _).trans (hb1.mono (by simp))⟩
   first | exact unhide R | (rw[←unhide R];simp;omega) | (rw[←unhide R];simp)
theorem valueOk_6 (num:Int)(flt:Nat)(str:ByteArray)(ref:Int)(w:World)(hs:str.size≤9223372036854775807) :
  Calls Tryz.prog 126 #[.agg #[.int .i64 6,.int .i64 num,.float .f64 flt,.string str,.int .i64 ref]] w fun e w'=>e=.returned (.bool (sValueOk ⟨6,num,flt,str,ref⟩))∧Below w.heap.size w w':=by
 have hbA:∀ o,Below w.heap.size w (w.alloc o):=fun o=>(Below.refl _ _).alloc (Nat.le_refl _) o
 have E:Hid (sValueOk ⟨6,num,flt,str,ref⟩=(zeroV ⟨6,num,flt,str,ref⟩ false false false true&&decide (0≤ref))):=rfl
 have Z:=hide (l1zero_any 6 num flt str ref false false false true)
 generalize hz:zeroV ⟨6,num,flt,str,ref⟩ false false false true=z at *
 clear hz
 cases z
 ·skip
  have R:Hid (false=sValueOk ⟨6,num,flt,str,ref⟩):=by show _=_;rw[E.out];first | done | simp
  clear E
  go_enter Tryz.func126,Tryz.ntmps126
  go_wp2_with fail
  refine(unhide Z _).mono ?_
  rintro e w1 ⟨rfl,hb1⟩
  obtain⟨hc1,hf1⟩:=bcell hb1
  have hz1:w.heap.size<w1.heap.size:=by have:=hb1.size;simp at this;omega
  go_wp2_with fail
  go_ret
  refine⟨ret_bool ?_,(hbA _).trans (hb1.mono (by simp))⟩
  first | exact unhide R | (rw[←unhide R];simp;omega) | (rw[←unhide R];simp)
 ·by_cases q0:0≤ref
  ·skip
   have R:Hid (true=sValueOk ⟨6,num,flt,str,ref⟩):=by show _=_;rw[E.out];first | done | simp[q0]
   clear E
   go_enter Tryz.func126,Tryz.ntmps126
   go_wp2_with fail
   refine(unhide Z _).mono ?_
   rintro e w1 ⟨rfl,hb1⟩
   obtain⟨hc1,hf1⟩:=bcell hb1
   have hz1:w.heap.size<w1.heap.size:=by have:=hb1.size;simp at this;omega
   go_wp2_with fail
   go_ret
   refine⟨ret_bool ?_,(hbA _).trans (hb1.mono (by simp))⟩
   first | exact unhide R | (rw[←unhide R];simp;omega) | (rw[←unhide R];simp)
  ·skip
   have R:Hid (false=sValueOk ⟨6,num,flt,str,ref⟩):=by show _=_;rw[E.out];first | done | simp[q0]
   clear E
   go_enter Tryz.func126,Tryz.ntmps126
   go_wp2_with fail
   refine(unhide Z _).mono ?_
   rintro e w1 ⟨rfl,hb1⟩
   obtain⟨hc1,hf1⟩:=bcell hb1
   have hz1:w.heap.size<w1.heap.size:=by have:=hb1.size;simp at this;omega
   go_wp2_with fail
   go_ret
   refine⟨ret_bool ?_,(hbA _).trans (hb1.mono (by simp))⟩
   first | exact unhide R | (rw[←unhide R];simp;omega) | (rw[←unhide R];simp)
theorem valueOk_7 (num:Int)(flt:Nat)(str:ByteArray)(ref:Int)(w:World)(hs:str.size≤9223372036854775807) :
  Calls Tryz.prog 126 #[.agg #[.int .i64 7,.int .i64 num,.float .f64 flt,.string str,.int .i64 ref]] w fun e w'=>e=.returned (.bool (sValueOk ⟨7,num,flt,str,ref⟩))∧Below w.heap.size w w':=by
 have hbA:∀ o,Below w.heap.size w (w.alloc o):=fun o=>(Below.refl _ _).alloc (Nat.le_refl _) o
 have E:Hid (sValueOk ⟨7,num,flt,str,ref⟩=(zeroV ⟨7,num,flt,str,ref⟩ false false false true&&decide (0≤ref))):=rfl
 have Z:=hide (l1zero_any 7 num flt str ref false false false true)
 generalize hz:zeroV ⟨7,num,flt,str,ref⟩ false false false true=z at *
 clear hz
 cases z
 ·skip
  have R:Hid (false=sValueOk ⟨7,num,flt,str,ref⟩):=by show _=_;rw[E.out];first | done | simp
  clear E
  go_enter Tryz.func126,Tryz.ntmps126
  go_wp2_with fail
  refine(unhide Z _).mono ?_
  rintro e w1 ⟨rfl,hb1⟩
  obtain⟨hc1,hf1⟩:=bcell hb1
  have hz1:w.heap.size<w1.heap.size:=by have:=hb1.size;simp at this;omega
  go_wp2_with fail
  go_ret
  refine⟨ret_bool ?_,(hbA _).trans (hb1.mono (by simp))⟩
  first | exact unhide R | (rw[←unhide R];simp;omega) | (rw[←unhide R];simp)
 ·by_cases q0:0≤ref
  ·skip
   have R:Hid (true=sValueOk ⟨7,num,flt,str,ref⟩):=by show _=_;rw[E.out];first | done | simp[q0]
   clear E
   go_enter Tryz.func126,Tryz.ntmps126
   go_wp2_with fail
   refine(unhide Z _).mono ?_
   rintro e w1 ⟨rfl,hb1⟩
   obtain⟨hc1,hf1⟩:=bcell hb1
   have hz1:w.heap.size<w1.heap.size:=by have:=hb1.size;simp at this;omega
   go_wp2_with fail
   go_ret
   refine⟨ret_bool ?_,(hbA _).trans (hb1.mono (by simp))⟩
   first | exact unhide R | (rw[←unhide R];simp;omega) | (rw[←unhide R];simp)
  ·skip
   have R:Hid (false=sValueOk ⟨7,num,flt,str,ref⟩):=by show _=_;rw[E.out];first | done | simp[q0]
   clear E
   go_enter Tryz.func126,Tryz.ntmps126
   go_wp2_with fail
   refine(unhide Z _).mono ?_
   rintro e w1 ⟨rfl,hb1⟩
   obtain⟨hc1,hf1⟩:=bcell hb1
   have hz1:w.heap.size<w1.heap.size:=by have:=hb1.size;simp at this;omega
   go_wp2_with fail
   go_ret
   refine⟨ret_bool ?_,(hbA _).trans (hb1.mono (by simp))⟩
   first | exact unhide R | (rw[←unhide R];simp;omega) | (rw[←unhide R];simp)
theorem valueOk_8 (num:Int)(flt:Nat)(str:ByteArray)(ref:Int)(w:World)(hs:str.size≤9223372036854775807) :
  Calls Tryz.prog 126 #[.agg #[.int .i64 8,.int .i64 num,.float .f64 flt,.string str,.int .i64 ref]] w fun e w'=>e=.returned (.bool (sValueOk ⟨8,num,flt,str,ref⟩))∧Below w.heap.size w w':=by
 have hbA:∀ o,Below w.heap.size w (w.alloc o):=fun o=>(Below.refl _ _).alloc (Nat.le_refl _) o
 have E:Hid (sValueOk ⟨8,num,flt,str,ref⟩=(zeroV ⟨8,num,flt,str,ref⟩ true false false false&&decide (0≤num)&&decide (num<15))):=rfl
 have Z:=hide (l1zero_any 8 num flt str ref true false false false)
 generalize hz:zeroV ⟨8,num,flt,str,ref⟩ true false false false=z at *
 clear hz
 cases z
 ·skip
  have R:Hid (false=sValueOk ⟨8,num,flt,str,ref⟩):=by show _=_;rw[E.out];first | done | simp
  clear E
  go_enter Tryz.func126,Tryz.ntmps126
  go_wp2_with fail
  refine(unhide Z _).mono ?_
  rintro e w1 ⟨rfl,hb1⟩
  obtain⟨hc1,hf1⟩:=bcell hb1
  have hz1:w.heap.size<w1.heap.size:=by have:=hb1.size;simp at this;omega
  go_wp2_with fail
  go_ret
  refine⟨ret_bool ?_,(hbA _).trans (hb1.mono (by simp))⟩
  first | exact unhide R | (rw[←unhide R];simp;omega) | (rw[←unhide R];simp)
 ·by_cases q0:0≤num
  ·by_cases q1:num<15
   ·skip
    have R:Hid (true=sValueOk ⟨8,num,flt,str,ref⟩):=by show _=_;rw[E.out];first | done | simp[q0,q1]
    clear E
    go_enter Tryz.func126,Tryz.ntmps126
    go_wp2_with fail
    refine(unhide Z _).mono ?_
    rintro e w1 ⟨rfl,hb1⟩
    obtain⟨hc1,hf1⟩:=bcell hb1
    have hz1:w.heap.size<w1.heap.size:=by have:=hb1.size;simp at this;omega
    go_wp2_with fail
    go_ret
    refine⟨ret_bool ?_,(hbA _).trans (hb1.mono (by simp))⟩
    first | exact unhide R | (rw[←unhide R];simp;omega) | (rw[←unhide R];simp)
   ·skip
    have R:Hid (false=sValueOk ⟨8,num,flt,str,ref⟩):=by show _=_;rw[E.out];first | done | simp[q0,q1]
    clear E
    go_enter Tryz.func126,Tryz.ntmps126
    go_wp2_with fail
    refine(unhide Z _).mono ?_
    rintro e w1 ⟨rfl,hb1⟩
    obtain⟨hc1,hf1⟩:=bcell hb1
    have hz1:w.heap.size<w1.heap.size:=by have:=hb1.size;simp at this;omega
    go_wp2_with fail
    go_ret
    refine⟨ret_bool ?_,(hbA _).trans (hb1.mono (by simp))⟩
    first | exact unhide R | (rw[←unhide R];simp;omega) | (rw[←unhide R];simp)
  ·skip
   have R:Hid (false=sValueOk ⟨8,num,flt,str,ref⟩):=by show _=_;rw[E.out];first | done | simp[q0]
   clear E
   go_enter Tryz.func126,Tryz.ntmps126
   go_wp2_with fail
   refine(unhide Z _).mono ?_
   rintro e w1 ⟨rfl,hb1⟩
   obtain⟨hc1,hf1⟩:=bcell hb1
   have hz1:w.heap.size<w1.heap.size:=by have:=hb1.size;simp at this;omega
   go_wp2_with fail
   go_ret
   refine⟨ret_bool ?_,(hbA _).trans (hb1.mono (by simp))⟩
   first | exact unhide R | (rw[←unhide R];simp;omega) | (rw[←unhide R];simp)
theorem valueOk_none (kind num:Int)(flt:Nat)(str:ByteArray)(ref:Int)(w:World)(h0:(kind==0)=false)(h1:(kind==1)=false)(h2:(kind==2)=false)(h3:(kind==3)=false)(h4:(kind==4)=false)(h5:(kind==5)=false)(h6:(kind==6)=false)(h7:(kind==7)=false)(h8:(kind==8)=false) :
  Calls Tryz.prog 126 #[.agg #[.int .i64 kind,.int .i64 num,.float .f64 flt,.string str,.int .i64 ref]] w fun e w'=>e=.returned (.bool false)∧Below w.heap.size w w':=by
 have hbA:∀ o,Below w.heap.size w (w.alloc o):=fun o=>(Below.refl _ _).alloc (Nat.le_refl _) o
 go_enter Tryz.func126,Tryz.ntmps126
 go_wp2_with fail
 go_ret
 exact⟨rfl,hbA _⟩
theorem valueOk_any (n:ValD)(w:World)(hs:n.str.size≤9223372036854775807):Calls Tryz.prog 126 #[.agg #[.int .i64 n.kind,.int .i64 n.num,.float .f64 n.flt,.string n.str,.int .i64 n.ref]] w fun e w'=>e=.returned (.bool (sValueOk n))∧Below w.heap.size w w':=by
 obtain⟨kind,num,flt,str,ref⟩:=n
 simp only at *
 by_cases h0:kind=0
 ·subst h0;exact valueOk_0 num flt str ref w hs
 by_cases h1:kind=1
 ·subst h1;exact valueOk_1 num flt str ref w hs
 by_cases h2:kind=2
 ·subst h2;exact valueOk_2 num flt str ref w hs
 by_cases h3:kind=3
 ·subst h3;exact valueOk_3 num flt str ref w hs
 by_cases h4:kind=4
 ·subst h4;exact valueOk_4 num flt str ref w hs
 by_cases h5:kind=5
 ·subst h5;exact valueOk_5 num flt str ref w hs
 by_cases h6:kind=6
 ·subst h6;exact valueOk_6 num flt str ref w hs
 by_cases h7:kind=7
 ·subst h7;exact valueOk_7 num flt str ref w hs
 by_cases h8:kind=8
 ·subst h8;exact valueOk_8 num flt str ref w hs
 have e:sValueOk ⟨kind,num,flt,str,ref⟩=false:=by
  unfold sValueOk
  simp only[h0,h1,h2,h3,h4,h5,h6,h7,h8,if_false]
 rw[e]
 exact valueOk_none kind num flt str ref w (beq_eq_false_iff_ne.2 h0) (beq_eq_false_iff_ne.2 h1) (beq_eq_false_iff_ne.2 h2) (beq_eq_false_iff_ne.2 h3) (beq_eq_false_iff_ne.2 h4) (beq_eq_false_iff_ne.2 h5) (beq_eq_false_iff_ne.2 h6) (beq_eq_false_iff_ne.2 h7) (beq_eq_false_iff_ne.2 h8)
def fltNum (x:Nat):Bool:=FloatKind.f64.format.order x x==some Ordering.eq
theorem quo_zero (x:Nat)(h:fltZero x=true):∃ q,floatBits .quo .f64 4607182418800017408 x=some q:=by
 have h2:FloatKind.f64.format.order x 0=some Ordering.eq:=by simpa[fltZero]using h
 have h':(Ieee.double.read x).order (Ieee.double.read 0)=some Ordering.eq:=h2
 show ∃ q,((Ieee.double.read 4607182418800017408).quotient (Ieee.double.fractionBits+2) (Ieee.double.read x)).map Ieee.double.write=some q
 rw[read_one]
 generalize Ieee.double.read x=d at h'
 cases d with
 | number s m i=>
  simp only[Ieee.Datum.quotient]
  by_cases e:m=0
  ·simp[e]
  ·simp[e]
 | infinity s=>simp[Ieee.Datum.quotient]
 | nan s f=>simp[Ieee.Datum.order]at h'
def posOne (x:Nat):Bool:=match floatBits .quo .f64 4607182418800017408 x with
 | some q=>FloatKind.f64.format.order q 0==some Ordering.gt
 | none=>false
def sConst (n:ValD):Bool:=
 sValueOk n && !(n.kind==5||n.kind==6||n.kind==7)&&(if n.kind=3 then fltNum n.flt else fltZero n.flt&&posOne n.flt)
theorem l6constOk_any (n:ValD)(w:World)(hs:n.str.size≤9223372036854775807):Calls Tryz.prog 98 #[.agg #[.int .i64 n.kind,.int .i64 n.num,.float .f64 n.flt,.string n.str,.int .i64 n.ref]] w fun e w'=>e=.returned (.bool (sConst n))∧Below w.heap.size w w':=by
 have hbA:∀ o,Below w.heap.size w (w.alloc o):=fun o=>(Below.refl _ _).alloc (Nat.le_refl _) o
 have Z:=hide (fun W=>valueOk_any n W hs)
 have E:Hid (sConst n=(sValueOk n && !(n.kind==5||n.kind==6||n.kind==7)&&(if n.kind=3 then fltNum n.flt else fltZero n.flt&&posOne n.flt))):=rfl
 obtain⟨kind,num,flt,str,ref⟩:=n
 simp only at *
 generalize sValueOk ⟨kind,num,flt,str,ref⟩=vo at *
 generalize hres:sConst ⟨kind,num,flt,str,ref⟩=res at *
 clear hres
 cases vo
 ·have R:Hid (false=res):=by show _=_;rw[E.out];rfl
  clear E
  go_enter Tryz.func98,Tryz.ntmps98
  go_wp2_with fail
  refine(unhide Z _).mono ?_
  rintro e w1 ⟨rfl,hb1⟩
  go_wp2_with fail
  go_ret
  exact⟨ret_bool (unhide R),(hbA _).trans (hb1.mono (by simp))⟩
 cases k5:kind==5
 case true=>
  have R:Hid (false=res):=by show _=_;rw[E.out,k5];rfl
  clear E
  go_enter Tryz.func98,Tryz.ntmps98
  go_wp2_with fail
  refine(unhide Z _).mono ?_
  rintro e w1 ⟨rfl,hb1⟩
  obtain⟨hc1,hf1⟩:=bcell hb1
  have hz1:w.heap.size<w1.heap.size:=by have:=hb1.size;simp at this;omega
  go_wp2_with fail
  go_ret
  exact⟨ret_bool (unhide R),(hbA _).trans (hb1.mono (by simp))⟩
 cases k6:kind==6
 case true=>
  have R:Hid (false=res):=by show _=_;rw[E.out,k5,k6];rfl
  clear E
  go_enter Tryz.func98,Tryz.ntmps98
  go_wp2_with fail
  refine(unhide Z _).mono ?_
  rintro e w1 ⟨rfl,hb1⟩
  obtain⟨hc1,hf1⟩:=bcell hb1
  have hz1:w.heap.size<w1.heap.size:=by have:=hb1.size;simp at this;omega
  go_wp2_with fail
  go_ret
  exact⟨ret_bool (unhide R),(hbA _).trans (hb1.mono (by simp))⟩
 cases k7:kind==7
 case true=>
  have R:Hid (false=res):=by show _=_;rw[E.out,k5,k6,k7];rfl
  clear E
  go_enter Tryz.func98,Tryz.ntmps98
  go_wp2_with fail
  refine(unhide Z _).mono ?_
  rintro e w1 ⟨rfl,hb1⟩
  obtain⟨hc1,hf1⟩:=bcell hb1
  have hz1:w.heap.size<w1.heap.size:=by have:=hb1.size;simp at this;omega
  go_wp2_with fail
  go_ret
  exact⟨ret_bool (unhide R),(hbA _).trans (hb1.mono (by simp))⟩
 have E2:Hid (res=(if kind=3 then fltNum flt else fltZero flt&&posOne flt)):=by show _=_;rw[E.out,k5,k6,k7];rfl
 clear E
 by_cases k3:kind=3
 ·have R:Hid ((FloatKind.f64.format.order flt flt==some Ordering.eq)=res):=by show _=_;rw[E2.out,if_pos k3];rfl
  have k3b:(kind != 3)=false:=by simpa using k3
  clear E2 k3
  go_enter Tryz.func98,Tryz.ntmps98
  go_wp2_with fail
  refine(unhide Z _).mono ?_
  rintro e w1 ⟨rfl,hb1⟩
  obtain⟨hc1,hf1⟩:=bcell hb1
  have hz1:w.heap.size<w1.heap.size:=by have:=hb1.size;simp at this;omega
  go_wp2_with fail
  go_ret
  exact⟨ret_bool (unhide R),(hbA _).trans (hb1.mono (by simp))⟩
 have k3b:(kind != 3)=true:=by simpa using k3
 cases fz:fltZero flt
 ·have R:Hid (false=res):=by show _=_;rw[E2.out,if_neg k3,fz];rfl
  have fzb:(FloatKind.f64.format.order flt 0==some Ordering.eq)=false:=fz
  clear E2 k3 fz
  go_enter Tryz.func98,Tryz.ntmps98
  go_wp2_with fail
  refine(unhide Z _).mono ?_
  rintro e w1 ⟨rfl,hb1⟩
  obtain⟨hc1,hf1⟩:=bcell hb1
  have hz1:w.heap.size<w1.heap.size:=by have:=hb1.size;simp at this;omega
  go_wp2_with fail
  go_ret
  exact⟨ret_bool (unhide R),(hbA _).trans (hb1.mono (by simp))⟩
 ·obtain⟨q,hq⟩:=quo_zero flt fz
  have R:Hid ((FloatKind.f64.format.order q 0==some Ordering.gt)=res):=by
   show _=_
   rw[E2.out,if_neg k3,fz]
   unfold posOne
   rw[hq]
   rfl
  have fzb:(FloatKind.f64.format.order flt 0==some Ordering.eq)=true:=fz
  have hrun:∀ w:World,(binOp .quo 149 (.float .f64 4607182418800017408) (.float .f64 flt)).run Tryz.prog w=.ok (.float .f64 q) w:=fun w=>run_float_arith (w:=w) (P:=Tryz.prog) .quo 149 .f64 4607182418800017408 flt q hq
  clear E2 k3 fz hq
  go_enter Tryz.func98,Tryz.ntmps98
  go_wp2_with fail
  refine(unhide Z _).mono ?_
  rintro e w1 ⟨rfl,hb1⟩
  obtain⟨hc1,hf1⟩:=bcell hb1
  have hz1:w.heap.size<w1.heap.size:=by have:=hb1.size;simp at this;omega
  go_wp2_with fail
  go_ret
  exact⟨ret_bool (unhide R),(hbA _).trans (hb1.mono (by simp))⟩
end Go.Proofs.YthmjjhfjkgaocaaGreatDoor

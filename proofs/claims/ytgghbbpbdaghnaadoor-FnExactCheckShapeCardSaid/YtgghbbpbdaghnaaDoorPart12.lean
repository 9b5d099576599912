import Derived.Test.YtgghbbpbdaghnaaDoorPart11
set_option linter.unusedSimpArgs false
set_option linter.unusedVariables false
set_option maxHeartbeats 4000000
set_option maxRecDepth 100000
namespace Go.Proofs.YtgghbbpbdaghnaaDoor
open Go.RowKit
def fltNum (x:Nat):Bool:=FloatKind.f64.format.order x x==some Ordering.eq
theorem quo_zero (x:Nat)(h:fltZero x=true):∃ q,floatBits .quo .f64 4607182418800017408 x=some q:=by
 have h2:FloatKind.f64.format.order x 0=some Ordering.eq:=by simpa[fltZero]using h
 have h':(Ieee.double.read x).order (Ieee.double.read 0)=some Ordering.eq:=h2;show ∃ q,((Ieee.double.read 4607182418800017408).quotient (Ieee.double.fractionBits+2) (Ieee.double.read x)).map Ieee.double.write=some q;rw[read_one];generalize Ieee.double.read x=d at h';cases d with
 | number s m i=>
  simp only[Ieee.Datum.quotient];by_cases e:m=0
  ·simp[e]
  ·simp[e]
 | infinity s=>simp[Ieee.Datum.quotient]
 | nan s f=>simp[Ieee.Datum.order]at h'
def posOne (x:Nat):Bool:=match floatBits .quo .f64 4607182418800017408 x with
 | some q=>FloatKind.f64.format.order q 0==some Ordering.gt
 | none=>false
def sConst (n:ValD):Bool:=
 sValueOk n && !(n.kind==5||n.kind==6||n.kind==7)&&(if n.kind=3 then fltNum n.flt else fltZero n.flt&&posOne n.flt)
theorem l6constOk_any (n:ValD)(w:World)(hs:n.str.size<=9223372036854775807):Calls Tryd.prog 25 #[.agg #[.int .i64 n.kind,.int .i64 n.num,.float .f64 n.flt,.string n.str,.int .i64 n.ref]] w fun e w'=>e=.returned (.bool (sConst n))/\Below w.heap.size w w':=by
 have hbA:∀ o,Below w.heap.size w (w.alloc o):=fun o=>(Below.refl _ _).alloc (Nat.le_refl _) o;have Z:=hide (fun W=>valueOk_any n W hs);have E:Hid (sConst n=(sValueOk n && !(n.kind==5||n.kind==6||n.kind==7)&&(if n.kind=3 then fltNum n.flt else fltZero n.flt&&posOne n.flt))):=rfl;obtain⟨kind,num,flt,str,ref⟩:=n;simp only at *;generalize sValueOk ⟨kind,num,flt,str,ref⟩=vo at *;generalize hres:sConst ⟨kind,num,flt,str,ref⟩=res at *;clear hres;cases vo
 ·have R:Hid (false=res):=by show _=_;rw[E.out];rfl
  clear E;go_enter Tryd.func25,Tryd.ntmps25;go_wp2_with fail
  refine(unhide Z _).mono ?_;rintro e w1 ⟨rfl,hb1⟩;go_wp2_with fail
  go_ret;exact⟨ret_bool (unhide R),(hbA _).trans (hb1.mono (by simp))⟩
 cases k5:kind==5
 case true=>
  have R:Hid (false=res):=by show _=_;rw[E.out,k5];rfl
  clear E;go_enter Tryd.func25,Tryd.ntmps25;go_wp2_with fail
  refine(unhide Z _).mono ?_;rintro e w1 ⟨rfl,hb1⟩;obtain⟨hc1,hf1⟩:=bcell hb1;have hz1:w.heap.size<w1.heap.size:=by have:=hb1.size;simp at this;omega
  go_wp2_with fail
  go_ret;exact⟨ret_bool (unhide R),(hbA _).trans (hb1.mono (by simp))⟩
 cases k6:kind==6
 case true=>
  have R:Hid (false=res):=by show _=_;rw[E.out,k5,k6];rfl
  clear E;go_enter Tryd.func25,Tryd.ntmps25;go_wp2_with fail
  refine(unhide Z _).mono ?_;rintro e w1 ⟨rfl,hb1⟩;obtain⟨hc1,hf1⟩:=bcell hb1;have hz1:w.heap.size<w1.heap.size:=by have:=hb1.size;simp at this;omega
  go_wp2_with fail
  go_ret;exact⟨ret_bool (unhide R),(hbA _).trans (hb1.mono (by simp))⟩
 cases k7:kind==7
 case true=>
  have R:Hid (false=res):=by show _=_;rw[E.out,k5,k6,k7];rfl
  clear E;go_enter Tryd.func25,Tryd.ntmps25;go_wp2_with fail
  refine(unhide Z _).mono ?_;rintro e w1 ⟨rfl,hb1⟩;obtain⟨hc1,hf1⟩:=bcell hb1;have hz1:w.heap.size<w1.heap.size:=by have:=hb1.size;simp at this;omega
  go_wp2_with fail
  go_ret;exact⟨ret_bool (unhide R),(hbA _).trans (hb1.mono (by simp))⟩
 have E2:Hid (res=(if kind=3 then fltNum flt else fltZero flt&&posOne flt)):=by show _=_;rw[E.out,k5,k6,k7];rfl
 clear E;by_cases k3:kind=3
 ·have R:Hid ((FloatKind.f64.format.order flt flt==some Ordering.eq)=res):=by show _=_;rw[E2.out,if_pos k3];rfl
  have k3b:(kind != 3)=false:=by simpa using k3
  clear E2 k3;go_enter Tryd.func25,Tryd.ntmps25;go_wp2_with fail
  refine(unhide Z _).mono ?_;rintro e w1 ⟨rfl,hb1⟩;obtain⟨hc1,hf1⟩:=bcell hb1;have hz1:w.heap.size<w1.heap.size:=by have:=hb1.size;simp at this;omega
  go_wp2_with fail
  go_ret;exact⟨ret_bool (unhide R),(hbA _).trans (hb1.mono (by simp))⟩
 have k3b:(kind != 3)=true:=by simpa using k3
 cases fz:fltZero flt
 ·have R:Hid (false=res):=by show _=_;rw[E2.out,if_neg k3,fz];rfl
  have fzb:(FloatKind.f64.format.order flt 0==some Ordering.eq)=false:=fz;clear E2 k3 fz;go_enter Tryd.func25,Tryd.ntmps25;go_wp2_with fail
  refine(unhide Z _).mono ?_;rintro e w1 ⟨rfl,hb1⟩;obtain⟨hc1,hf1⟩:=bcell hb1;have hz1:w.heap.size<w1.heap.size:=by have:=hb1.size;simp at this;omega
  go_wp2_with fail
  go_ret;exact⟨ret_bool (unhide R),(hbA _).trans (hb1.mono (by simp))⟩
 ·obtain⟨q,hq⟩:=quo_zero flt fz;have R:Hid ((FloatKind.f64.format.order q 0==some Ordering.gt)=res):=by
   show _=_;rw[E2.out,if_neg k3,fz];unfold posOne;rw[hq];rfl
  have fzb:(FloatKind.f64.format.order flt 0==some Ordering.eq)=true:=fz;have hrun:∀ w:World,(binOp .quo 59 (.float .f64 4607182418800017408) (.float .f64 flt)).run Tryd.prog w=.ok (.float .f64 q) w:=fun w=>run_float_arith (w:=w) (P:=Tryd.prog) .quo 59 .f64 4607182418800017408 flt q hq;clear E2 k3 fz hq;go_enter Tryd.func25,Tryd.ntmps25;go_wp2_with fail
  refine(unhide Z _).mono ?_;rintro e w1 ⟨rfl,hb1⟩;obtain⟨hc1,hf1⟩:=bcell hb1;have hz1:w.heap.size<w1.heap.size:=by have:=hb1.size;simp at this;omega
  go_wp2_with fail
  go_ret;exact⟨ret_bool (unhide R),(hbA _).trans (hb1.mono (by simp))⟩
def sgnBit (x:Nat):Bool:=x / 9223372036854775808 % 2==1
theorem read_zero:Ieee.double.read 0=.number false 0 (-1074):=by decide +kernel
theorem shl_pos {m k:Nat}(h:m≠0):m <<< k≠0:=by
 rw[Nat.shiftLeft_eq];exact Nat.mul_ne_zero h (Nat.pos_iff_ne_zero.1 (Nat.two_pow_pos k))
theorem zero_read (x:Nat)(h:fltZero x=true):Ieee.double.read x=.number (sgnBit x) 0 (-1074):=by
 have h2:FloatKind.f64.format.order x 0=some Ordering.eq:=by simpa[fltZero]using h
 have h':(Ieee.double.read x).order (Ieee.double.read 0)=some Ordering.eq:=h2;rw[read_zero]at h';have e1:Ieee.double.signWeight=9223372036854775808:=by decide +kernel
 have e2:Ieee.double.binade=4503599627370496:=by decide +kernel
 have e3:Ieee.double.leastPlace=-1074:=by decide +kernel
 unfold Ieee.Format.read at h' ⊢;simp only[e1,e2,e3]at h' ⊢;have key:∀(s:Bool) (m:Nat) (i:Int),Ieee.Datum.order (.number s m i) (.number false 0 (-1074))=some Ordering.eq->m=0:=by
  intro s m i hh;by_cases e:m=0
  ·exact e
  ·exfalso
   simp only[Ieee.Datum.order,Ieee.signed,Option.some.injEq]at hh;have hp:=shl_pos (k:=(i-min i (-1074)).toNat) e;generalize m <<< (i-min i (-1074)).toNat=M at *;have h3:=Std.LawfulEqCmp.eq_of_compare hh;simp at h3;cases s<;>simp at h3<;>omega
 split at h'
 ·rename_i c;rw[if_pos c];have:=key _ _ _ h';rw[this];rfl
 ·exfalso
  split at h'
  ·have:=key _ _ _ h';omega
  ·split at h'
   ·revert h';simp only[Ieee.Datum.order];split<;>simp
   ·simp[Ieee.Datum.order]at h'
theorem pos_sign (x:Nat)(h:fltZero x=true):posOne x=!sgnBit x:=by
 have hq:floatBits .quo .f64 4607182418800017408 x=((Ieee.double.read 4607182418800017408).quotient (Ieee.double.fractionBits+2) (Ieee.double.read x)).map Ieee.double.write:=rfl;unfold posOne;rw[hq,read_one,zero_read x h];cases sgnBit x
 ·decide +kernel
 ·decide +kernel
end Go.Proofs.YtgghbbpbdaghnaaDoor

import Derived.Test.YtcjfjflljdojlaaGreatDoorPart05
set_option linter.all false
set_option maxHeartbeats 4000000
set_option maxRecDepth 100000
namespace Go.Proofs.YtcjfjflljdojlaaGreatDoor
open Go.RowKit
def aI (n:cN):Bool:=
 if n.kind=0 then eF n false false false false
 else if n.kind=1 then eF n true false false false&&(n.num==0||n.num==1)
 else if n.kind=2 then eF n true false false false
 else if n.kind=3 then eF n false true false false
 else if n.kind=4 then eF n false false true false&&decide ((n.str.size:Int)<=4000)
 else if n.kind=5 then eF n false false false true&&decide (0<=n.ref)
 else if n.kind=6 then eF n false false false true&&decide (0<=n.ref)
 else if n.kind=7 then eF n false false false true&&decide (0<=n.ref)
 else if n.kind=8 then eF n true false false false&&decide (0<=n.num)&&decide (n.num<15)
 else false
theorem G9 (num:Int)(flt:Nat)(str:ByteArray)(ref:Int)(w:w_)(hs:str.size<=9223372036854775807) :
  c_ 134 #[.agg #[i_ 0,i_ num,.float .f64 flt,.string str,i_ ref]] w fun e w'=>e=.returned (.bool (aI ⟨0,num,flt,str,ref⟩))/\b_ w w':=by
 have dD:∀ o,b_ w (w.alloc o):=fun o=>r_.alloc n_ o;have E:H_ (aI ⟨0,num,flt,str,ref⟩=(eF ⟨0,num,flt,str,ref⟩ false false false false)):=rfl;have Z:=af (fN 0 num flt str ref false false false false);generalize hz:eF ⟨0,num,flt,str,ref⟩ false false false false=z at *;clear hz;cases z
 ·skip;have R:H_ (false=aI ⟨0,num,flt,str,ref⟩):=by show _=_;rw[E.o];first | done | simp
  clear E;go_enter Tryz.func134,Tryz.ntmps134;go_wp2_with fail
  refine(aa Z _).mono ?_;rintro e w1 ⟨rfl,ar⟩;obtain⟨cT,fI⟩:=cz ar;have cS:w.heap.size<w1.heap.size:=by{have:=ar.size;simp at this;omega};go_wp2;go_ret;refine⟨ak ?_,(dD _).trans (ar.mono (by simp))⟩;first | exact aa R | (rw[<-aa R];simp;omega) | (rw[<-aa R];simp)
 ·skip;have R:H_ (true=aI ⟨0,num,flt,str,ref⟩):=by show _=_;rw[E.o];first | done | simp
  clear E;go_enter Tryz.func134,Tryz.ntmps134;go_wp2_with fail
  refine(aa Z _).mono ?_;rintro e w1 ⟨rfl,ar⟩;obtain⟨cT,fI⟩:=cz ar;have cS:w.heap.size<w1.heap.size:=by{have:=ar.size;simp at this;omega};go_wp2;go_ret;refine⟨ak ?_,(dD _).trans (ar.mono (by simp))⟩;first | exact aa R | (rw[<-aa R];simp;omega) | (rw[<-aa R];simp)
theorem GK (num:Int)(flt:Nat)(str:ByteArray)(ref:Int)(w:w_)(hs:str.size<=9223372036854775807) :
  c_ 134 #[.agg #[i_ 1,i_ num,.float .f64 flt,.string str,i_ ref]] w fun e w'=>e=.returned (.bool (aI ⟨1,num,flt,str,ref⟩))/\b_ w w':=by
 have dD:∀ o,b_ w (w.alloc o):=fun o=>r_.alloc n_ o;have E:H_ (aI ⟨1,num,flt,str,ref⟩=(eF ⟨1,num,flt,str,ref⟩ true false false false&&(num==0||num==1))):=rfl;have Z:=af (fN 1 num flt str ref true false false false);generalize hz:eF ⟨1,num,flt,str,ref⟩ true false false false=z at *;clear hz;cases z
 ·skip;have R:H_ (false=aI ⟨1,num,flt,str,ref⟩):=by show _=_;rw[E.o];first | done | simp
  clear E;go_enter Tryz.func134,Tryz.ntmps134;go_wp2_with fail
  refine(aa Z _).mono ?_;rintro e w1 ⟨rfl,ar⟩;obtain⟨cT,fI⟩:=cz ar;have cS:w.heap.size<w1.heap.size:=by{have:=ar.size;simp at this;omega};go_wp2;go_ret;refine⟨ak ?_,(dD _).trans (ar.mono (by simp))⟩;first | exact aa R | (rw[<-aa R];simp;omega) | (rw[<-aa R];simp)
 ·cases q0:num==0
  ·cases q1:num==1
   ·skip;have R:H_ (false=aI ⟨1,num,flt,str,ref⟩):=by show _=_;rw[E.o];first | done | simp[q0,q1]
    clear E;go_enter Tryz.func134,Tryz.ntmps134;go_wp2_with fail
    refine(aa Z _).mono ?_;rintro e w1 ⟨rfl,ar⟩;obtain⟨cT,fI⟩:=cz ar;have cS:w.heap.size<w1.heap.size:=by{have:=ar.size;simp at this;omega};go_wp2;go_ret;refine⟨ak ?_,(dD _).trans (ar.mono (by simp))⟩;first | exact aa R | (rw[<-aa R];simp;omega) | (rw[<-aa R];simp)
   ·skip;have R:H_ (true=aI ⟨1,num,flt,str,ref⟩):=by show _=_;rw[E.o];first | done | simp[q0,q1]
    clear E;go_enter Tryz.func134,Tryz.ntmps134;go_wp2_with fail
    refine(aa Z _).mono ?_;rintro e w1 ⟨rfl,ar⟩;obtain⟨cT,fI⟩:=cz ar;have cS:w.heap.size<w1.heap.size:=by{have:=ar.size;simp at this;omega};go_wp2;go_ret;refine⟨ak ?_,(dD _).trans (ar.mono (by simp))⟩;first | exact aa R | (rw[<-aa R];simp;omega) | (rw[<-aa R];simp)
  ·skip;have R:H_ (true=aI ⟨1,num,flt,str,ref⟩):=by show _=_;rw[E.o];first | done | simp[q0]
   clear E;go_enter Tryz.func134,Tryz.ntmps134;go_wp2_with fail
   refine(aa Z _).mono ?_;rintro e w1 ⟨rfl,ar⟩;obtain⟨cT,fI⟩:=cz ar;have cS:w.heap.size<w1.heap.size:=by{have:=ar.size;simp at this;omega};go_wp2;go_ret;refine⟨ak ?_,(dD _).trans (ar.mono (by simp))⟩;first | exact aa R | (rw[<-aa R];simp;omega) | (rw[<-aa R];simp)
theorem Gd (num:Int)(flt:Nat)(str:ByteArray)(ref:Int)(w:w_)(hs:str.size<=9223372036854775807) :
  c_ 134 #[.agg #[i_ 2,i_ num,.float .f64 flt,.string str,i_ ref]] w fun e w'=>e=.returned (.bool (aI ⟨2,num,flt,str,ref⟩))/\b_ w w':=by
 have dD:∀ o,b_ w (w.alloc o):=fun o=>r_.alloc n_ o;have E:H_ (aI ⟨2,num,flt,str,ref⟩=(eF ⟨2,num,flt,str,ref⟩ true false false false)):=rfl;have Z:=af (fN 2 num flt str ref true false false false);generalize hz:eF ⟨2,num,flt,str,ref⟩ true false false false=z at *;clear hz;cases z
 ·skip;have R:H_ (false=aI ⟨2,num,flt,str,ref⟩):=by show _=_;rw[E.o];first | done | simp
  clear E;go_enter Tryz.func134,Tryz.ntmps134;go_wp2_with fail
  refine(aa Z _).mono ?_;rintro e w1 ⟨rfl,ar⟩;obtain⟨cT,fI⟩:=cz ar;have cS:w.heap.size<w1.heap.size:=by{have:=ar.size;simp at this;omega};go_wp2;go_ret;refine⟨ak ?_,(dD _).trans (ar.mono (by simp))⟩;first | exact aa R | (rw[<-aa R];simp;omega) | (rw[<-aa R];simp)
 ·skip;have R:H_ (true=aI ⟨2,num,flt,str,ref⟩):=by show _=_;rw[E.o];first | done | simp
  clear E;go_enter Tryz.func134,Tryz.ntmps134;go_wp2_with fail
  refine(aa Z _).mono ?_;rintro e w1 ⟨rfl,ar⟩;obtain⟨cT,fI⟩:=cz ar;have cS:w.heap.size<w1.heap.size:=by{have:=ar.size;simp at this;omega};go_wp2;go_ret;refine⟨ak ?_,(dD _).trans (ar.mono (by simp))⟩;first | exact aa R | (rw[<-aa R];simp;omega) | (rw[<-aa R];simp)
theorem FH (num:Int)(flt:Nat)(str:ByteArray)(ref:Int)(w:w_)(hs:str.size<=9223372036854775807) :
  c_ 134 #[.agg #[i_ 3,i_ num,.float .f64 flt,.string str,i_ ref]] w fun e w'=>e=.returned (.bool (aI ⟨3,num,flt,str,ref⟩))/\b_ w w':=by
 have dD:∀ o,b_ w (w.alloc o):=fun o=>r_.alloc n_ o;have E:H_ (aI ⟨3,num,flt,str,ref⟩=(eF ⟨3,num,flt,str,ref⟩ false true false false)):=rfl;have Z:=af (fN 3 num flt str ref false true false false);generalize hz:eF ⟨3,num,flt,str,ref⟩ false true false false=z at *;clear hz;cases z
 ·skip;have R:H_ (false=aI ⟨3,num,flt,str,ref⟩):=by show _=_;rw[E.o];first | done | simp
  clear E;go_enter Tryz.func134,Tryz.ntmps134;go_wp2_with fail
  refine(aa Z _).mono ?_;rintro e w1 ⟨rfl,ar⟩;obtain⟨cT,fI⟩:=cz ar;have cS:w.heap.size<w1.heap.size:=by{have:=ar.size;simp at this;omega};go_wp2;go_ret;refine⟨ak ?_,(dD _).trans (ar.mono (by simp))⟩;first | exact aa R | (rw[<-aa R];simp;omega) | (rw[<-aa R];simp)
 ·skip;have R:H_ (true=aI ⟨3,num,flt,str,ref⟩):=by show _=_;rw[E.o];first | done | simp
  clear E;go_enter Tryz.func134,Tryz.ntmps134;go_wp2_with fail
  refine(aa Z _).mono ?_;rintro e w1 ⟨rfl,ar⟩;obtain⟨cT,fI⟩:=cz ar;have cS:w.heap.size<w1.heap.size:=by{have:=ar.size;simp at this;omega};go_wp2;go_ret;refine⟨ak ?_,(dD _).trans (ar.mono (by simp))⟩;first | exact aa R | (rw[<-aa R];simp;omega) | (rw[<-aa R];simp)
theorem GF (num:Int)(flt:Nat)(str:ByteArray)(ref:Int)(w:w_)(hs:str.size<=9223372036854775807) :
  c_ 134 #[.agg #[i_ 4,i_ num,.float .f64 flt,.string str,i_ ref]] w fun e w'=>e=.returned (.bool (aI ⟨4,num,flt,str,ref⟩))/\b_ w w':=by
 have dD:∀ o,b_ w (w.alloc o):=fun o=>r_.alloc n_ o;have E:H_ (aI ⟨4,num,flt,str,ref⟩=(eF ⟨4,num,flt,str,ref⟩ false false true false&&decide ((str.size:Int)<=4000))):=rfl;have Z:=af (fN 4 num flt str ref false false true false);generalize hz:eF ⟨4,num,flt,str,ref⟩ false false true false=z at *;clear hz;cases z
 ·skip;have R:H_ (false=aI ⟨4,num,flt,str,ref⟩):=by show _=_;rw[E.o];first | done | simp
  clear E;go_enter Tryz.func134,Tryz.ntmps134;go_wp2_with fail
  refine(aa Z _).mono ?_;rintro e w1 ⟨rfl,ar⟩;obtain⟨cT,fI⟩:=cz ar;have cS:w.heap.size<w1.heap.size:=by{have:=ar.size;simp at this;omega};go_wp2;go_ret;refine⟨ak ?_,(dD _).trans (ar.mono (by simp))⟩;first | exact aa R | (rw[<-aa R];simp;omega) | (rw[<-aa R];simp)
 ·by_cases q0:(str.size:Int)<=4000
  ·skip;have R:H_ (true=aI ⟨4,num,flt,str,ref⟩):=by show _=_;rw[E.o];first | done | simp[q0]
   clear E;go_enter Tryz.func134,Tryz.ntmps134;go_wp2_with fail
   refine(aa Z _).mono ?_;rintro e w1 ⟨rfl,ar⟩;obtain⟨cT,fI⟩:=cz ar;have cS:w.heap.size<w1.heap.size:=by{have:=ar.size;simp at this;omega};go_wp2;go_ret;refine⟨ak ?_,(dD _).trans (ar.mono (by simp))⟩;first | exact aa R | (rw[<-aa R];simp;omega) | (rw[<-aa R];simp)
  ·skip;have R:H_ (false=aI ⟨4,num,flt,str,ref⟩):=by show _=_;rw[E.o];first | done | simp[q0]
   clear E;go_enter Tryz.func134,Tryz.ntmps134;go_wp2_with fail
   refine(aa Z _).mono ?_;rintro e w1 ⟨rfl,ar⟩;obtain⟨cT,fI⟩:=cz ar;have cS:w.heap.size<w1.heap.size:=by{have:=ar.size;simp at this;omega};go_wp2;go_ret;refine⟨ak ?_,(dD _).trans (ar.mono (by simp))⟩;first | exact aa R | (rw[<-aa R];simp;omega) | (rw[<-aa R];simp)
theorem GW (num:Int)(flt:Nat)(str:ByteArray)(ref:Int)(w:w_)(hs:str.size<=9223372036854775807) :
  c_ 134 #[.agg #[i_ 5,i_ num,.float .f64 flt,.string str,i_ ref]] w fun e w'=>e=.returned (.bool (aI ⟨5,num,flt,str,ref⟩))/\b_ w w':=by
 have dD:∀ o,b_ w (w.alloc o):=fun o=>r_.alloc n_ o;have E:H_ (aI ⟨5,num,flt,str,ref⟩=(eF ⟨5,num,flt,str,ref⟩ false false false true&&decide (0<=ref))):=rfl;have Z:=af (fN 5 num flt str ref false false false true);generalize hz:eF ⟨5,num,flt,str,ref⟩ false false false true=z at *;clear hz;cases z
 ·skip;have R:H_ (false=aI ⟨5,num,flt,str,ref⟩):=by show _=_;rw[E.o];first | done | simp
  clear E;go_enter Tryz.func134,Tryz.ntmps134;go_wp2_with fail
  refine(aa Z _).mono ?_;rintro e w1 ⟨rfl,ar⟩;obtain⟨cT,fI⟩:=cz ar;have cS:w.heap.size<w1.heap.size:=by{have:=ar.size;simp at this;omega};go_wp2;go_ret;refine⟨ak ?_,(dD _).trans (ar.mono (by simp))⟩;first | exact aa R | (rw[<-aa R];simp;omega) | (rw[<-aa R];simp)
 ·by_cases q0:0<=ref
  ·skip;have R:H_ (true=aI ⟨5,num,flt,str,ref⟩):=by show _=_;rw[E.o];first | done | simp[q0]
   clear E;go_enter Tryz.func134,Tryz.ntmps134;go_wp2_with fail
   refine(aa Z _).mono ?_;rintro e w1 ⟨rfl,ar⟩;obtain⟨cT,fI⟩:=cz ar;have cS:w.heap.size<w1.heap.size:=by{have:=ar.size;simp at this;omega};go_wp2;go_ret;refine⟨ak ?_,(dD _).trans (ar.mono (by simp))⟩;first | exact aa R | (rw[<-aa R];simp;omega) | (rw[<-aa R];simp)
  ·skip;have R:H_ (false=aI ⟨5,num,flt,str,ref⟩):=by show _=_;rw[E.o];first | done | simp[q0]
   clear E;go_enter Tryz.func134,Tryz.ntmps134;go_wp2_with fail
   refine(aa Z _).mono ?_;rintro e w1 ⟨rfl,ar⟩;obtain⟨cT,fI⟩:=cz ar;have cS:w.heap.size<w1.heap.size:=by{have:=ar.size;simp at this;omega};go_wp2;go_ret;refine⟨ak ?_,(dD _).trans (ar.mono (by simp))⟩;first | exact aa R | (rw[<-aa R];simp;omega) | (rw[<-aa R];simp)
theorem F8 (num:Int)(flt:Nat)(str:ByteArray)(ref:Int)(w:w_)(hs:str.size<=9223372036854775807) :
  c_ 134 #[.agg #[i_ 6,i_ num,.float .f64 flt,.string str,i_ ref]] w fun e w'=>e=.returned (.bool (aI ⟨6,num,flt,str,ref⟩))/\b_ w w':=by
 have dD:∀ o,b_ w (w.alloc o):=fun o=>r_.alloc n_ o;have E:H_ (aI ⟨6,num,flt,str,ref⟩=(eF ⟨6,num,flt,str,ref⟩ false false false true&&decide (0<=ref))):=rfl;have Z:=af (fN 6 num flt str ref false false false true);generalize hz:eF ⟨6,num,flt,str,ref⟩ false false false true=z at *;clear hz;cases z
 ·skip;have R:H_ (false=aI ⟨6,num,flt,str,ref⟩):=by show _=_;rw[E.o];first | done | simp
  clear E;go_enter Tryz.func134,Tryz.ntmps134;go_wp2_with fail
  refine(aa Z _).mono ?_;rintro e w1 ⟨rfl,ar⟩;obtain⟨cT,fI⟩:=cz ar;have cS:w.heap.size<w1.heap.size:=by{have:=ar.size;simp at this;omega};go_wp2;go_ret;refine⟨ak ?_,(dD _).trans (ar.mono (by simp))⟩;first | exact aa R | (rw[<-aa R];simp;omega) | (rw[<-aa R];simp)
 ·by_cases q0:0<=ref
  ·skip;have R:H_ (true=aI ⟨6,num,flt,str,ref⟩):=by show _=_;rw[E.o];first | done | simp[q0]
   clear E;go_enter Tryz.func134,Tryz.ntmps134;go_wp2_with fail
   refine(aa Z _).mono ?_;rintro e w1 ⟨rfl,ar⟩;obtain⟨cT,fI⟩:=cz ar;have cS:w.heap.size<w1.heap.size:=by{have:=ar.size;simp at this;omega};go_wp2;go_ret;refine⟨ak ?_,(dD _).trans (ar.mono (by simp))⟩;first | exact aa R | (rw[<-aa R];simp;omega) | (rw[<-aa R];simp)
  ·skip;have R:H_ (false=aI ⟨6,num,flt,str,ref⟩):=by show _=_;rw[E.o];first | done | simp[q0]
   clear E;go_enter Tryz.func134,Tryz.ntmps134;go_wp2_with fail
   refine(aa Z _).mono ?_;rintro e w1 ⟨rfl,ar⟩;obtain⟨cT,fI⟩:=cz ar;have cS:w.heap.size<w1.heap.size:=by{have:=ar.size;simp at this;omega};go_wp2;go_ret;refine⟨ak ?_,(dD _).trans (ar.mono (by simp))⟩;first | exact aa R | (rw[<-aa R];simp;omega) | (rw[<-aa R];simp)
theorem Gh (num:Int)(flt:Nat)(str:ByteArray)(ref:Int)(w:w_)(hs:str.size<=9223372036854775807) :
  c_ 134 #[.agg #[i_ 7,i_ num,.float .f64 flt,.string str,i_ ref]] w fun e w'=>e=.returned (.bool (aI ⟨7,num,flt,str,ref⟩))/\b_ w w':=by
 have dD:∀ o,b_ w (w.alloc o):=fun o=>r_.alloc n_ o;have E:H_ (aI ⟨7,num,flt,str,ref⟩=(eF ⟨7,num,flt,str,ref⟩ false false false true&&decide (0<=ref))):=rfl;have Z:=af (fN 7 num flt str ref false false false true);generalize hz:eF ⟨7,num,flt,str,ref⟩ false false false true=z at *;clear hz;cases z
 ·skip;have R:H_ (false=aI ⟨7,num,flt,str,ref⟩):=by show _=_;rw[E.o];first | done | simp
  clear E;go_enter Tryz.func134,Tryz.ntmps134;go_wp2_with fail
  refine(aa Z _).mono ?_;rintro e w1 ⟨rfl,ar⟩;obtain⟨cT,fI⟩:=cz ar;have cS:w.heap.size<w1.heap.size:=by{have:=ar.size;simp at this;omega};go_wp2;go_ret;refine⟨ak ?_,(dD _).trans (ar.mono (by simp))⟩;first | exact aa R | (rw[<-aa R];simp;omega) | (rw[<-aa R];simp)
 ·by_cases q0:0<=ref
  ·skip;have R:H_ (true=aI ⟨7,num,flt,str,ref⟩):=by show _=_;rw[E.o];first | done | simp[q0]
   clear E;go_enter Tryz.func134,Tryz.ntmps134;go_wp2_with fail
   refine(aa Z _).mono ?_;rintro e w1 ⟨rfl,ar⟩;obtain⟨cT,fI⟩:=cz ar;have cS:w.heap.size<w1.heap.size:=by{have:=ar.size;simp at this;omega};go_wp2;go_ret;refine⟨ak ?_,(dD _).trans (ar.mono (by simp))⟩;first | exact aa R | (rw[<-aa R];simp;omega) | (rw[<-aa R];simp)
  ·skip;have R:H_ (false=aI ⟨7,num,flt,str,ref⟩):=by show _=_;rw[E.o];first | done | simp[q0]
   clear E;go_enter Tryz.func134,Tryz.ntmps134;go_wp2_with fail
   refine(aa Z _).mono ?_;rintro e w1 ⟨rfl,ar⟩;obtain⟨cT,fI⟩:=cz ar;have cS:w.heap.size<w1.heap.size:=by{have:=ar.size;simp at this;omega};go_wp2;go_ret;refine⟨ak ?_,(dD _).trans (ar.mono (by simp))⟩;first | exact aa R | (rw[<-aa R];simp;omega) | (rw[<-aa R];simp)
theorem Gu (num:Int)(flt:Nat)(str:ByteArray)(ref:Int)(w:w_)(hs:str.size<=9223372036854775807) :
  c_ 134 #[.agg #[i_ 8,i_ num,.float .f64 flt,.string str,i_ ref]] w fun e w'=>e=.returned (.bool (aI ⟨8,num,flt,str,ref⟩))/\b_ w w':=by
 have dD:∀ o,b_ w (w.alloc o):=fun o=>r_.alloc n_ o;have E:H_ (aI ⟨8,num,flt,str,ref⟩=(eF ⟨8,num,flt,str,ref⟩ true false false false&&decide (0<=num)&&decide (num<15))):=rfl;have Z:=af (fN 8 num flt str ref true false false false);generalize hz:eF ⟨8,num,flt,str,ref⟩ true false false false=z at *;clear hz;cases z
 ·skip;have R:H_ (false=aI ⟨8,num,flt,str,ref⟩):=by show _=_;rw[E.o];first | done | simp
  clear E;go_enter Tryz.func134,Tryz.ntmps134;go_wp2_with fail
  refine(aa Z _).mono ?_;rintro e w1 ⟨rfl,ar⟩;obtain⟨cT,fI⟩:=cz ar;have cS:w.heap.size<w1.heap.size:=by{have:=ar.size;simp at this;omega};go_wp2;go_ret;refine⟨ak ?_,(dD _).trans (ar.mono (by simp))⟩;first | exact aa R | (rw[<-aa R];simp;omega) | (rw[<-aa R];simp)
 ·by_cases q0:0<=num
  ·by_cases q1:num<15
   ·skip;have R:H_ (true=aI ⟨8,num,flt,str,ref⟩):=by show _=_;rw[E.o];first | done | simp[q0,q1]
    clear E;go_enter Tryz.func134,Tryz.ntmps134;go_wp2_with fail
    refine(aa Z _).mono ?_;rintro e w1 ⟨rfl,ar⟩;obtain⟨cT,fI⟩:=cz ar;have cS:w.heap.size<w1.heap.size:=by{have:=ar.size;simp at this;omega};go_wp2;go_ret;refine⟨ak ?_,(dD _).trans (ar.mono (by simp))⟩;first | exact aa R | (rw[<-aa R];simp;omega) | (rw[<-aa R];simp)
   ·skip;have R:H_ (false=aI ⟨8,num,flt,str,ref⟩):=by show _=_;rw[E.o];first | done | simp[q0,q1]
    clear E;go_enter Tryz.func134,Tryz.ntmps134;go_wp2_with fail
    refine(aa Z _).mono ?_;rintro e w1 ⟨rfl,ar⟩;obtain⟨cT,fI⟩:=cz ar;have cS:w.heap.size<w1.heap.size:=by{have:=ar.size;simp at this;omega};go_wp2;go_ret;refine⟨ak ?_,(dD _).trans (ar.mono (by simp))⟩;first | exact aa R | (rw[<-aa R];simp;omega) | (rw[<-aa R];simp)
  ·skip;have R:H_ (false=aI ⟨8,num,flt,str,ref⟩):=by show _=_;rw[E.o];first | done | simp[q0]
   clear E;go_enter Tryz.func134,Tryz.ntmps134;go_wp2_with fail
   refine(aa Z _).mono ?_;rintro e w1 ⟨rfl,ar⟩;obtain⟨cT,fI⟩:=cz ar;have cS:w.heap.size<w1.heap.size:=by{have:=ar.size;simp at this;omega};go_wp2;go_ret;refine⟨ak ?_,(dD _).trans (ar.mono (by simp))⟩;first | exact aa R | (rw[<-aa R];simp;omega) | (rw[<-aa R];simp)
theorem x9 (kind num:Int)(flt:Nat)(str:ByteArray)(ref:Int)(w:w_)(h0:(kind==0)=false)(h1:(kind==1)=false)(h2:(kind==2)=false)(h3:(kind==3)=false)(h4:(kind==4)=false)(h5:(kind==5)=false)(h6:(kind==6)=false)(h7:(kind==7)=false)(h8:(kind==8)=false) :
  c_ 134 #[.agg #[i_ kind,i_ num,.float .f64 flt,.string str,i_ ref]] w fun e w'=>e=.returned (.bool false)/\b_ w w':=by
 have dD:∀ o,b_ w (w.alloc o):=fun o=>r_.alloc n_ o;go_enter Tryz.func134,Tryz.ntmps134;go_wp2
 go_ret;exact⟨rfl,dD _⟩
theorem Aj (n:cN)(w:w_)(hs:n.str.size<=9223372036854775807):c_ 134 #[.agg #[i_ n.kind,i_ n.num,.float .f64 n.flt,.string n.str,i_ n.ref]] w fun e w'=>e=.returned (.bool (aI n))/\b_ w w':=by
 obtain⟨kind,num,flt,str,ref⟩:=n;simp only at *;by_cases h0:kind=0;{subst h0;exact G9 num flt str ref w hs};by_cases h1:kind=1;{subst h1;exact GK num flt str ref w hs};by_cases h2:kind=2;{subst h2;exact Gd num flt str ref w hs};by_cases h3:kind=3;{subst h3;exact FH num flt str ref w hs};by_cases h4:kind=4;{subst h4;exact GF num flt str ref w hs};by_cases h5:kind=5;{subst h5;exact GW num flt str ref w hs};by_cases h6:kind=6;{subst h6;exact F8 num flt str ref w hs};by_cases h7:kind=7;{subst h7;exact Gh num flt str ref w hs};by_cases h8:kind=8;{subst h8;exact Gu num flt str ref w hs};have e:aI ⟨kind,num,flt,str,ref⟩=false:=by{unfold aI;simp only[h0,h1,h2,h3,h4,h5,h6,h7,h8,if_false]};rw[e];exact x9 kind num flt str ref w (zag.2 h0) (zag.2 h1) (zag.2 h2) (zag.2 h3) (zag.2 h4) (zag.2 h5) (zag.2 h6) (zag.2 h7) (zag.2 h8)
def tL (x:Nat):Bool:=FloatKind.f64.format.order x x==some Ordering.eq
theorem J5 (x:Nat)(h:cI x=true):∃ q,floatBits .quo .f64 4607182418800017408 x=some q:=by
 have h2:FloatKind.f64.format.order x 0=some Ordering.eq:=by simpa[cI]using h
 have h':(Ieee.double.read x).order (Ieee.double.read 0)=some Ordering.eq:=h2;show ∃ q,((Ieee.double.read 4607182418800017408).quotient (Ieee.double.fractionBits+2) (Ieee.double.read x)).map Ieee.double.write=some q;rw[uv];generalize Ieee.double.read x=d at h';cases d with
 | number s m i=>
  simp only[Ieee.Datum.quotient];by_cases e:m=0;{simp[e]};{simp[e]}
 | infinity s=>simp[Ieee.Datum.quotient]
 | nan s f=>simp[Ieee.Datum.order]at h'
def rq (x:Nat):Bool:=match floatBits .quo .f64 4607182418800017408 x with
 | some q=>FloatKind.f64.format.order q 0==some Ordering.gt
 | none=>false
def dv (n:cN):Bool:=
 aI n && !(n.kind==5||n.kind==6||n.kind==7)&&(if n.kind=3 then tL n.flt else cI n.flt&&rq n.flt)
theorem vK (n:cN)(w:w_)(hs:n.str.size<=9223372036854775807):c_ 98 #[.agg #[i_ n.kind,i_ n.num,.float .f64 n.flt,.string n.str,i_ n.ref]] w fun e w'=>e=.returned (.bool (dv n))/\b_ w w':=by
 have dD:∀ o,b_ w (w.alloc o):=fun o=>r_.alloc n_ o;have Z:=af (fun W=>Aj n W hs);have E:H_ (dv n=(aI n && !(n.kind==5||n.kind==6||n.kind==7)&&(if n.kind=3 then tL n.flt else cI n.flt&&rq n.flt))):=rfl;obtain⟨kind,num,flt,str,ref⟩:=n;simp only at *;generalize aI ⟨kind,num,flt,str,ref⟩=vo at *;generalize yR:dv ⟨kind,num,flt,str,ref⟩=res at *;clear yR;cases vo
 ·have R:H_ (false=res):=by show _=_;rw[E.o];rfl
  clear E;go_enter Tryz.func98,Tryz.ntmps98;go_wp2_with fail
  refine(aa Z _).mono ?_;rintro e w1 ⟨rfl,ar⟩;go_wp2;go_ret;exact⟨ak (aa R),(dD _).trans (ar.mono (by simp))⟩
 cases k5:kind==5;case true=>
  have R:H_ (false=res):=by show _=_;rw[E.o,k5];rfl
  clear E;go_enter Tryz.func98,Tryz.ntmps98;go_wp2_with fail
  refine(aa Z _).mono ?_;rintro e w1 ⟨rfl,ar⟩;obtain⟨cT,fI⟩:=cz ar;have cS:w.heap.size<w1.heap.size:=by{have:=ar.size;simp at this;omega};go_wp2;go_ret;exact⟨ak (aa R),(dD _).trans (ar.mono (by simp))⟩
 cases k6:kind==6;case true=>
  have R:H_ (false=res):=by show _=_;rw[E.o,k5,k6];rfl
  clear E;go_enter Tryz.func98,Tryz.ntmps98;go_wp2_with fail
  refine(aa Z _).mono ?_;rintro e w1 ⟨rfl,ar⟩;obtain⟨cT,fI⟩:=cz ar;have cS:w.heap.size<w1.heap.size:=by{have:=ar.size;simp at this;omega};go_wp2;go_ret;exact⟨ak (aa R),(dD _).trans (ar.mono (by simp))⟩
 cases k7:kind==7;case true=>
  have R:H_ (false=res):=by show _=_;rw[E.o,k5,k6,k7];rfl
  clear E;go_enter Tryz.func98,Tryz.ntmps98;go_wp2_with fail
  refine(aa Z _).mono ?_;rintro e w1 ⟨rfl,ar⟩;obtain⟨cT,fI⟩:=cz ar;have cS:w.heap.size<w1.heap.size:=by{have:=ar.size;simp at this;omega};go_wp2;go_ret;exact⟨ak (aa R),(dD _).trans (ar.mono (by simp))⟩
 have E2:H_ (res=(if kind=3 then tL flt else cI flt&&rq flt)):=by{show _=_;rw[E.o,k5,k6,k7];rfl};clear E;by_cases k3:kind=3
 ·have R:H_ ((FloatKind.f64.format.order flt flt==some Ordering.eq)=res):=by{show _=_;rw[E2.o,zca k3];rfl};have k3b:(kind != 3)=false:=by simpa using k3
  clear E2 k3;go_enter Tryz.func98,Tryz.ntmps98;go_wp2_with fail
  refine(aa Z _).mono ?_;rintro e w1 ⟨rfl,ar⟩;obtain⟨cT,fI⟩:=cz ar;have cS:w.heap.size<w1.heap.size:=by{have:=ar.size;simp at this;omega};go_wp2;go_ret;exact⟨ak (aa R),(dD _).trans (ar.mono (by simp))⟩
 have k3b:(kind != 3)=true:=by{simpa using k3};cases fz:cI flt
 ·have R:H_ (false=res):=by show _=_;rw[E2.o,zcb k3,fz];rfl
  have vk:(FloatKind.f64.format.order flt 0==some Ordering.eq)=false:=fz;clear E2 k3 fz;go_enter Tryz.func98,Tryz.ntmps98;go_wp2_with fail
  refine(aa Z _).mono ?_;rintro e w1 ⟨rfl,ar⟩;obtain⟨cT,fI⟩:=cz ar;have cS:w.heap.size<w1.heap.size:=by{have:=ar.size;simp at this;omega};go_wp2;go_ret;exact⟨ak (aa R),(dD _).trans (ar.mono (by simp))⟩
 ·obtain⟨q,hq⟩:=J5 flt fz;have R:H_ ((FloatKind.f64.format.order q 0==some Ordering.gt)=res):=by show _=_;rw[E2.o,zcb k3,fz];unfold rq;rw[hq];rfl
  have vk:(FloatKind.f64.format.order flt 0==some Ordering.eq)=true:=fz;have Hl:∀ w:w_,(binOp .quo 47 (.float .f64 4607182418800017408) (.float .f64 flt)).run Tryz.prog w=.ok (.float .f64 q) w:=fun w=>run_float_arith (w:=w) (P:=Tryz.prog) .quo 47 .f64 4607182418800017408 flt q hq;clear E2 k3 fz hq;go_enter Tryz.func98,Tryz.ntmps98;go_wp2_with fail
  refine(aa Z _).mono ?_;rintro e w1 ⟨rfl,ar⟩;obtain⟨cT,fI⟩:=cz ar;have cS:w.heap.size<w1.heap.size:=by{have:=ar.size;simp at this;omega};go_wp2;go_ret;exact⟨ak (aa R),(dD _).trans (ar.mono (by simp))⟩
end Go.Proofs.YtcjfjflljdojlaaGreatDoor

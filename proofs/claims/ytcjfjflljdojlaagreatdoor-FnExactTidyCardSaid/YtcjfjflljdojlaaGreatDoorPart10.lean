import Derived.Test.YtcjfjflljdojlaaGreatDoorPart09
set_option linter.unusedSimpArgs false
set_option linter.unusedVariables false
set_option maxHeartbeats 4000000
set_option maxRecDepth 100000
namespace Go.Proofs.YtcjfjflljdojlaaGreatDoor
open Go.RowKit
def aJ (n:cS):Bool:=
 if n.kind=0 then eJ n false false false false
 else if n.kind=1 then eJ n true false false false&&(n.num==0||n.num==1)
 else if n.kind=2 then eJ n true false false false
 else if n.kind=3 then eJ n false true false false
 else if n.kind=4 then eJ n false false true false&&decide ((n.str.size:Int)<=4000)
 else if n.kind=5 then eJ n false false false true&&decide (0<=n.ref)
 else if n.kind=6 then eJ n false false false true&&decide (0<=n.ref)
 else if n.kind=7 then eJ n false false false true&&decide (0<=n.ref)
 else if n.kind=8 then eJ n true false false false&&decide (0<=n.num)&&decide (n.num<15)
 else false
theorem FZ (num:Int)(flt:Nat)(str:ByteArray)(ref:Int)(w:World)(hs:str.size<=9223372036854775807) :
  c_ 134 #[.agg #[i_ 0,i_ num,.float .f64 flt,.string str,i_ ref]] w fun e w'=>e=.returned (.bool (aJ ⟨0,num,flt,str,ref⟩))/\b_ w w':=by
 have dF:∀ o,b_ w (w.alloc o):=fun o=>r_.alloc n_ o;have E:Hid (aJ ⟨0,num,flt,str,ref⟩=(eJ ⟨0,num,flt,str,ref⟩ false false false false)):=rfl;have Z:=af (fQ 0 num flt str ref false false false false);generalize hz:eJ ⟨0,num,flt,str,ref⟩ false false false false=z at *;clear hz;cases z
 ·skip
  have R:Hid (false=aJ ⟨0,num,flt,str,ref⟩):=by show _=_;rw[E.out];first | done | simp
  clear E;go_enter Tryz.func134,Tryz.ntmps134;go_wp2_with fail
  refine(aa Z _).mono ?_;rintro e w1 ⟨rfl,au⟩;obtain⟨cU,fJ⟩:=cz au;have cT:w.heap.size<w1.heap.size:=by have:=au.size;simp at this;omega
  go_wp2_with fail
  go_ret;refine⟨al ?_,(dF _).trans (au.mono (by simp))⟩
  first | exact aa R | (rw[<-aa R];simp;omega) | (rw[<-aa R];simp)
 ·skip
  have R:Hid (true=aJ ⟨0,num,flt,str,ref⟩):=by show _=_;rw[E.out];first | done | simp
  clear E;go_enter Tryz.func134,Tryz.ntmps134;go_wp2_with fail
  refine(aa Z _).mono ?_;rintro e w1 ⟨rfl,au⟩;obtain⟨cU,fJ⟩:=cz au;have cT:w.heap.size<w1.heap.size:=by have:=au.size;simp at this;omega
  go_wp2_with fail
  go_ret;refine⟨al ?_,(dF _).trans (au.mono (by simp))⟩
  first | exact aa R | (rw[<-aa R];simp;omega) | (rw[<-aa R];simp)
theorem Gh (num:Int)(flt:Nat)(str:ByteArray)(ref:Int)(w:World)(hs:str.size<=9223372036854775807) :
  c_ 134 #[.agg #[i_ 1,i_ num,.float .f64 flt,.string str,i_ ref]] w fun e w'=>e=.returned (.bool (aJ ⟨1,num,flt,str,ref⟩))/\b_ w w':=by
 have dF:∀ o,b_ w (w.alloc o):=fun o=>r_.alloc n_ o;have E:Hid (aJ ⟨1,num,flt,str,ref⟩=(eJ ⟨1,num,flt,str,ref⟩ true false false false&&(num==0||num==1))):=rfl;have Z:=af (fQ 1 num flt str ref true false false false);generalize hz:eJ ⟨1,num,flt,str,ref⟩ true false false false=z at *;clear hz;cases z
 ·skip
  have R:Hid (false=aJ ⟨1,num,flt,str,ref⟩):=by show _=_;rw[E.out];first | done | simp
  clear E;go_enter Tryz.func134,Tryz.ntmps134;go_wp2_with fail
  refine(aa Z _).mono ?_;rintro e w1 ⟨rfl,au⟩;obtain⟨cU,fJ⟩:=cz au;have cT:w.heap.size<w1.heap.size:=by have:=au.size;simp at this;omega
  go_wp2_with fail
  go_ret;refine⟨al ?_,(dF _).trans (au.mono (by simp))⟩
  first | exact aa R | (rw[<-aa R];simp;omega) | (rw[<-aa R];simp)
 ·cases q0:num==0
  ·cases q1:num==1
   ·skip
    have R:Hid (false=aJ ⟨1,num,flt,str,ref⟩):=by show _=_;rw[E.out];first | done | simp[q0,q1]
    clear E;go_enter Tryz.func134,Tryz.ntmps134;go_wp2_with fail
    refine(aa Z _).mono ?_;rintro e w1 ⟨rfl,au⟩;obtain⟨cU,fJ⟩:=cz au;have cT:w.heap.size<w1.heap.size:=by have:=au.size;simp at this;omega
    go_wp2_with fail
    go_ret;refine⟨al ?_,(dF _).trans (au.mono (by simp))⟩
    first | exact aa R | (rw[<-aa R];simp;omega) | (rw[<-aa R];simp)
   ·skip
    have R:Hid (true=aJ ⟨1,num,flt,str,ref⟩):=by show _=_;rw[E.out];first | done | simp[q0,q1]
    clear E;go_enter Tryz.func134,Tryz.ntmps134;go_wp2_with fail
    refine(aa Z _).mono ?_;rintro e w1 ⟨rfl,au⟩;obtain⟨cU,fJ⟩:=cz au;have cT:w.heap.size<w1.heap.size:=by have:=au.size;simp at this;omega
    go_wp2_with fail
    go_ret;refine⟨al ?_,(dF _).trans (au.mono (by simp))⟩
    first | exact aa R | (rw[<-aa R];simp;omega) | (rw[<-aa R];simp)
  ·skip
   have R:Hid (true=aJ ⟨1,num,flt,str,ref⟩):=by show _=_;rw[E.out];first | done | simp[q0]
   clear E;go_enter Tryz.func134,Tryz.ntmps134;go_wp2_with fail
   refine(aa Z _).mono ?_;rintro e w1 ⟨rfl,au⟩;obtain⟨cU,fJ⟩:=cz au;have cT:w.heap.size<w1.heap.size:=by have:=au.size;simp at this;omega
   go_wp2_with fail
   go_ret;refine⟨al ?_,(dF _).trans (au.mono (by simp))⟩
   first | exact aa R | (rw[<-aa R];simp;omega) | (rw[<-aa R];simp)
theorem Fz (num:Int)(flt:Nat)(str:ByteArray)(ref:Int)(w:World)(hs:str.size<=9223372036854775807) :
  c_ 134 #[.agg #[i_ 2,i_ num,.float .f64 flt,.string str,i_ ref]] w fun e w'=>e=.returned (.bool (aJ ⟨2,num,flt,str,ref⟩))/\b_ w w':=by
 have dF:∀ o,b_ w (w.alloc o):=fun o=>r_.alloc n_ o;have E:Hid (aJ ⟨2,num,flt,str,ref⟩=(eJ ⟨2,num,flt,str,ref⟩ true false false false)):=rfl;have Z:=af (fQ 2 num flt str ref true false false false);generalize hz:eJ ⟨2,num,flt,str,ref⟩ true false false false=z at *;clear hz;cases z
 ·skip
  have R:Hid (false=aJ ⟨2,num,flt,str,ref⟩):=by show _=_;rw[E.out];first | done | simp
  clear E;go_enter Tryz.func134,Tryz.ntmps134;go_wp2_with fail
  refine(aa Z _).mono ?_;rintro e w1 ⟨rfl,au⟩;obtain⟨cU,fJ⟩:=cz au;have cT:w.heap.size<w1.heap.size:=by have:=au.size;simp at this;omega
  go_wp2_with fail
  go_ret;refine⟨al ?_,(dF _).trans (au.mono (by simp))⟩
  first | exact aa R | (rw[<-aa R];simp;omega) | (rw[<-aa R];simp)
 ·skip
  have R:Hid (true=aJ ⟨2,num,flt,str,ref⟩):=by show _=_;rw[E.out];first | done | simp
  clear E;go_enter Tryz.func134,Tryz.ntmps134;go_wp2_with fail
  refine(aa Z _).mono ?_;rintro e w1 ⟨rfl,au⟩;obtain⟨cU,fJ⟩:=cz au;have cT:w.heap.size<w1.heap.size:=by have:=au.size;simp at this;omega
  go_wp2_with fail
  go_ret;refine⟨al ?_,(dF _).trans (au.mono (by simp))⟩
  first | exact aa R | (rw[<-aa R];simp;omega) | (rw[<-aa R];simp)
theorem F4 (num:Int)(flt:Nat)(str:ByteArray)(ref:Int)(w:World)(hs:str.size<=9223372036854775807) :
  c_ 134 #[.agg #[i_ 3,i_ num,.float .f64 flt,.string str,i_ ref]] w fun e w'=>e=.returned (.bool (aJ ⟨3,num,flt,str,ref⟩))/\b_ w w':=by
 have dF:∀ o,b_ w (w.alloc o):=fun o=>r_.alloc n_ o;have E:Hid (aJ ⟨3,num,flt,str,ref⟩=(eJ ⟨3,num,flt,str,ref⟩ false true false false)):=rfl;have Z:=af (fQ 3 num flt str ref false true false false);generalize hz:eJ ⟨3,num,flt,str,ref⟩ false true false false=z at *;clear hz;cases z
 ·skip
  have R:Hid (false=aJ ⟨3,num,flt,str,ref⟩):=by show _=_;rw[E.out];first | done | simp
  clear E;go_enter Tryz.func134,Tryz.ntmps134;go_wp2_with fail
  refine(aa Z _).mono ?_;rintro e w1 ⟨rfl,au⟩;obtain⟨cU,fJ⟩:=cz au;have cT:w.heap.size<w1.heap.size:=by have:=au.size;simp at this;omega
  go_wp2_with fail
  go_ret;refine⟨al ?_,(dF _).trans (au.mono (by simp))⟩
  first | exact aa R | (rw[<-aa R];simp;omega) | (rw[<-aa R];simp)
 ·skip
  have R:Hid (true=aJ ⟨3,num,flt,str,ref⟩):=by show _=_;rw[E.out];first | done | simp
  clear E;go_enter Tryz.func134,Tryz.ntmps134;go_wp2_with fail
  refine(aa Z _).mono ?_;rintro e w1 ⟨rfl,au⟩;obtain⟨cU,fJ⟩:=cz au;have cT:w.heap.size<w1.heap.size:=by have:=au.size;simp at this;omega
  go_wp2_with fail
  go_ret;refine⟨al ?_,(dF _).trans (au.mono (by simp))⟩
  first | exact aa R | (rw[<-aa R];simp;omega) | (rw[<-aa R];simp)
theorem Fv (num:Int)(flt:Nat)(str:ByteArray)(ref:Int)(w:World)(hs:str.size<=9223372036854775807) :
  c_ 134 #[.agg #[i_ 4,i_ num,.float .f64 flt,.string str,i_ ref]] w fun e w'=>e=.returned (.bool (aJ ⟨4,num,flt,str,ref⟩))/\b_ w w':=by
 have dF:∀ o,b_ w (w.alloc o):=fun o=>r_.alloc n_ o;have E:Hid (aJ ⟨4,num,flt,str,ref⟩=(eJ ⟨4,num,flt,str,ref⟩ false false true false&&decide ((str.size:Int)<=4000))):=rfl;have Z:=af (fQ 4 num flt str ref false false true false);generalize hz:eJ ⟨4,num,flt,str,ref⟩ false false true false=z at *;clear hz;cases z
 ·skip
  have R:Hid (false=aJ ⟨4,num,flt,str,ref⟩):=by show _=_;rw[E.out];first | done | simp
  clear E;go_enter Tryz.func134,Tryz.ntmps134;go_wp2_with fail
  refine(aa Z _).mono ?_;rintro e w1 ⟨rfl,au⟩;obtain⟨cU,fJ⟩:=cz au;have cT:w.heap.size<w1.heap.size:=by have:=au.size;simp at this;omega
  go_wp2_with fail
  go_ret;refine⟨al ?_,(dF _).trans (au.mono (by simp))⟩
  first | exact aa R | (rw[<-aa R];simp;omega) | (rw[<-aa R];simp)
 ·by_cases q0:(str.size:Int)<=4000
  ·skip
   have R:Hid (true=aJ ⟨4,num,flt,str,ref⟩):=by show _=_;rw[E.out];first | done | simp[q0]
   clear E;go_enter Tryz.func134,Tryz.ntmps134;go_wp2_with fail
   refine(aa Z _).mono ?_;rintro e w1 ⟨rfl,au⟩;obtain⟨cU,fJ⟩:=cz au;have cT:w.heap.size<w1.heap.size:=by have:=au.size;simp at this;omega
   go_wp2_with fail
   go_ret;refine⟨al ?_,(dF _).trans (au.mono (by simp))⟩
   first | exact aa R | (rw[<-aa R];simp;omega) | (rw[<-aa R];simp)
  ·skip
   have R:Hid (false=aJ ⟨4,num,flt,str,ref⟩):=by show _=_;rw[E.out];first | done | simp[q0]
   clear E;go_enter Tryz.func134,Tryz.ntmps134;go_wp2_with fail
   refine(aa Z _).mono ?_;rintro e w1 ⟨rfl,au⟩;obtain⟨cU,fJ⟩:=cz au;have cT:w.heap.size<w1.heap.size:=by have:=au.size;simp at this;omega
   go_wp2_with fail
   go_ret;refine⟨al ?_,(dF _).trans (au.mono (by simp))⟩
   first | exact aa R | (rw[<-aa R];simp;omega) | (rw[<-aa R];simp)
theorem G9 (num:Int)(flt:Nat)(str:ByteArray)(ref:Int)(w:World)(hs:str.size<=9223372036854775807) :
  c_ 134 #[.agg #[i_ 5,i_ num,.float .f64 flt,.string str,i_ ref]] w fun e w'=>e=.returned (.bool (aJ ⟨5,num,flt,str,ref⟩))/\b_ w w':=by
 have dF:∀ o,b_ w (w.alloc o):=fun o=>r_.alloc n_ o;have E:Hid (aJ ⟨5,num,flt,str,ref⟩=(eJ ⟨5,num,flt,str,ref⟩ false false false true&&decide (0<=ref))):=rfl;have Z:=af (fQ 5 num flt str ref false false false true);generalize hz:eJ ⟨5,num,flt,str,ref⟩ false false false true=z at *;clear hz;cases z
 ·skip
  have R:Hid (false=aJ ⟨5,num,flt,str,ref⟩):=by show _=_;rw[E.out];first | done | simp
  clear E;go_enter Tryz.func134,Tryz.ntmps134;go_wp2_with fail
  refine(aa Z _).mono ?_;rintro e w1 ⟨rfl,au⟩;obtain⟨cU,fJ⟩:=cz au;have cT:w.heap.size<w1.heap.size:=by have:=au.size;simp at this;omega
  go_wp2_with fail
  go_ret;refine⟨al ?_,(dF _).trans (au.mono (by simp))⟩
  first | exact aa R | (rw[<-aa R];simp;omega) | (rw[<-aa R];simp)
 ·by_cases q0:0<=ref
  ·skip
   have R:Hid (true=aJ ⟨5,num,flt,str,ref⟩):=by show _=_;rw[E.out];first | done | simp[q0]
   clear E;go_enter Tryz.func134,Tryz.ntmps134;go_wp2_with fail
   refine(aa Z _).mono ?_;rintro e w1 ⟨rfl,au⟩;obtain⟨cU,fJ⟩:=cz au;have cT:w.heap.size<w1.heap.size:=by have:=au.size;simp at this;omega
   go_wp2_with fail
   go_ret;refine⟨al ?_,(dF _).trans (au.mono (by simp))⟩
   first | exact aa R | (rw[<-aa R];simp;omega) | (rw[<-aa R];simp)
  ·skip
   have R:Hid (false=aJ ⟨5,num,flt,str,ref⟩):=by show _=_;rw[E.out];first | done | simp[q0]
   clear E;go_enter Tryz.func134,Tryz.ntmps134;go_wp2_with fail
   refine(aa Z _).mono ?_;rintro e w1 ⟨rfl,au⟩;obtain⟨cU,fJ⟩:=cz au;have cT:w.heap.size<w1.heap.size:=by have:=au.size;simp at this;omega
   go_wp2_with fail
   go_ret;refine⟨al ?_,(dF _).trans (au.mono (by simp))⟩
   first | exact aa R | (rw[<-aa R];simp;omega) | (rw[<-aa R];simp)
theorem G6 (num:Int)(flt:Nat)(str:ByteArray)(ref:Int)(w:World)(hs:str.size<=9223372036854775807) :
  c_ 134 #[.agg #[i_ 6,i_ num,.float .f64 flt,.string str,i_ ref]] w fun e w'=>e=.returned (.bool (aJ ⟨6,num,flt,str,ref⟩))/\b_ w w':=by
 have dF:∀ o,b_ w (w.alloc o):=fun o=>r_.alloc n_ o;have E:Hid (aJ ⟨6,num,flt,str,ref⟩=(eJ ⟨6,num,flt,str,ref⟩ false false false true&&decide (0<=ref))):=rfl;have Z:=af (fQ 6 num flt str ref false false false true);generalize hz:eJ ⟨6,num,flt,str,ref⟩ false false false true=z at *;clear hz;cases z
 ·skip
  have R:Hid (false=aJ ⟨6,num,flt,str,ref⟩):=by show _=_;rw[E.out];first | done | simp
  clear E;go_enter Tryz.func134,Tryz.ntmps134;go_wp2_with fail
  refine(aa Z _).mono ?_;rintro e w1 ⟨rfl,au⟩;obtain⟨cU,fJ⟩:=cz au;have cT:w.heap.size<w1.heap.size:=by have:=au.size;simp at this;omega
  go_wp2_with fail
  go_ret;refine⟨al ?_,(dF _).trans (au.mono (by simp))⟩
  first | exact aa R | (rw[<-aa R];simp;omega) | (rw[<-aa R];simp)
 ·by_cases q0:0<=ref
  ·skip
   have R:Hid (true=aJ ⟨6,num,flt,str,ref⟩):=by show _=_;rw[E.out];first | done | simp[q0]
   clear E;go_enter Tryz.func134,Tryz.ntmps134;go_wp2_with fail
   refine(aa Z _).mono ?_;rintro e w1 ⟨rfl,au⟩;obtain⟨cU,fJ⟩:=cz au;have cT:w.heap.size<w1.heap.size:=by have:=au.size;simp at this;omega
   go_wp2_with fail
   go_ret;refine⟨al ?_,(dF _).trans (au.mono (by simp))⟩
   first | exact aa R | (rw[<-aa R];simp;omega) | (rw[<-aa R];simp)
  ·skip
   have R:Hid (false=aJ ⟨6,num,flt,str,ref⟩):=by show _=_;rw[E.out];first | done | simp[q0]
   clear E;go_enter Tryz.func134,Tryz.ntmps134;go_wp2_with fail
   refine(aa Z _).mono ?_;rintro e w1 ⟨rfl,au⟩;obtain⟨cU,fJ⟩:=cz au;have cT:w.heap.size<w1.heap.size:=by have:=au.size;simp at this;omega
   go_wp2_with fail
   go_ret;refine⟨al ?_,(dF _).trans (au.mono (by simp))⟩
   first | exact aa R | (rw[<-aa R];simp;omega) | (rw[<-aa R];simp)
theorem Ha (num:Int)(flt:Nat)(str:ByteArray)(ref:Int)(w:World)(hs:str.size<=9223372036854775807) :
  c_ 134 #[.agg #[i_ 7,i_ num,.float .f64 flt,.string str,i_ ref]] w fun e w'=>e=.returned (.bool (aJ ⟨7,num,flt,str,ref⟩))/\b_ w w':=by
 have dF:∀ o,b_ w (w.alloc o):=fun o=>r_.alloc n_ o;have E:Hid (aJ ⟨7,num,flt,str,ref⟩=(eJ ⟨7,num,flt,str,ref⟩ false false false true&&decide (0<=ref))):=rfl;have Z:=af (fQ 7 num flt str ref false false false true);generalize hz:eJ ⟨7,num,flt,str,ref⟩ false false false true=z at *;clear hz;cases z
 ·skip
  have R:Hid (false=aJ ⟨7,num,flt,str,ref⟩):=by show _=_;rw[E.out];first | done | simp
  clear E;go_enter Tryz.func134,Tryz.ntmps134;go_wp2_with fail
  refine(aa Z _).mono ?_;rintro e w1 ⟨rfl,au⟩;obtain⟨cU,fJ⟩:=cz au;have cT:w.heap.size<w1.heap.size:=by have:=au.size;simp at this;omega
  go_wp2_with fail
  go_ret;refine⟨al ?_,(dF _).trans (au.mono (by simp))⟩
  first | exact aa R | (rw[<-aa R];simp;omega) | (rw[<-aa R];simp)
 ·by_cases q0:0<=ref
  ·skip
   have R:Hid (true=aJ ⟨7,num,flt,str,ref⟩):=by show _=_;rw[E.out];first | done | simp[q0]
   clear E;go_enter Tryz.func134,Tryz.ntmps134;go_wp2_with fail
   refine(aa Z _).mono ?_;rintro e w1 ⟨rfl,au⟩;obtain⟨cU,fJ⟩:=cz au;have cT:w.heap.size<w1.heap.size:=by have:=au.size;simp at this;omega
   go_wp2_with fail
   go_ret;refine⟨al ?_,(dF _).trans (au.mono (by simp))⟩
   first | exact aa R | (rw[<-aa R];simp;omega) | (rw[<-aa R];simp)
  ·skip
   have R:Hid (false=aJ ⟨7,num,flt,str,ref⟩):=by show _=_;rw[E.out];first | done | simp[q0]
   clear E;go_enter Tryz.func134,Tryz.ntmps134;go_wp2_with fail
   refine(aa Z _).mono ?_;rintro e w1 ⟨rfl,au⟩;obtain⟨cU,fJ⟩:=cz au;have cT:w.heap.size<w1.heap.size:=by have:=au.size;simp at this;omega
   go_wp2_with fail
   go_ret;refine⟨al ?_,(dF _).trans (au.mono (by simp))⟩
   first | exact aa R | (rw[<-aa R];simp;omega) | (rw[<-aa R];simp)
theorem G7 (num:Int)(flt:Nat)(str:ByteArray)(ref:Int)(w:World)(hs:str.size<=9223372036854775807) :
  c_ 134 #[.agg #[i_ 8,i_ num,.float .f64 flt,.string str,i_ ref]] w fun e w'=>e=.returned (.bool (aJ ⟨8,num,flt,str,ref⟩))/\b_ w w':=by
 have dF:∀ o,b_ w (w.alloc o):=fun o=>r_.alloc n_ o;have E:Hid (aJ ⟨8,num,flt,str,ref⟩=(eJ ⟨8,num,flt,str,ref⟩ true false false false&&decide (0<=num)&&decide (num<15))):=rfl;have Z:=af (fQ 8 num flt str ref true false false false);generalize hz:eJ ⟨8,num,flt,str,ref⟩ true false false false=z at *;clear hz;cases z
 ·skip
  have R:Hid (false=aJ ⟨8,num,flt,str,ref⟩):=by show _=_;rw[E.out];first | done | simp
  clear E;go_enter Tryz.func134,Tryz.ntmps134;go_wp2_with fail
  refine(aa Z _).mono ?_;rintro e w1 ⟨rfl,au⟩;obtain⟨cU,fJ⟩:=cz au;have cT:w.heap.size<w1.heap.size:=by have:=au.size;simp at this;omega
  go_wp2_with fail
  go_ret;refine⟨al ?_,(dF _).trans (au.mono (by simp))⟩
  first | exact aa R | (rw[<-aa R];simp;omega) | (rw[<-aa R];simp)
 ·by_cases q0:0<=num
  ·by_cases q1:num<15
   ·skip
    have R:Hid (true=aJ ⟨8,num,flt,str,ref⟩):=by show _=_;rw[E.out];first | done | simp[q0,q1]
    clear E;go_enter Tryz.func134,Tryz.ntmps134;go_wp2_with fail
    refine(aa Z _).mono ?_;rintro e w1 ⟨rfl,au⟩;obtain⟨cU,fJ⟩:=cz au;have cT:w.heap.size<w1.heap.size:=by have:=au.size;simp at this;omega
    go_wp2_with fail
    go_ret;refine⟨al ?_,(dF _).trans (au.mono (by simp))⟩
    first | exact aa R | (rw[<-aa R];simp;omega) | (rw[<-aa R];simp)
   ·skip
    have R:Hid (false=aJ ⟨8,num,flt,str,ref⟩):=by show _=_;rw[E.out];first | done | simp[q0,q1]
    clear E;go_enter Tryz.func134,Tryz.ntmps134;go_wp2_with fail
    refine(aa Z _).mono ?_;rintro e w1 ⟨rfl,au⟩;obtain⟨cU,fJ⟩:=cz au;have cT:w.heap.size<w1.heap.size:=by have:=au.size;simp at this;omega
    go_wp2_with fail
    go_ret;refine⟨al ?_,(dF _).trans (au.mono (by simp))⟩
    first | exact aa R | (rw[<-aa R];simp;omega) | (rw[<-aa R];simp)
  ·skip
   have R:Hid (false=aJ ⟨8,num,flt,str,ref⟩):=by show _=_;rw[E.out];first | done | simp[q0]
   clear E;go_enter Tryz.func134,Tryz.ntmps134;go_wp2_with fail
   refine(aa Z _).mono ?_;rintro e w1 ⟨rfl,au⟩;obtain⟨cU,fJ⟩:=cz au;have cT:w.heap.size<w1.heap.size:=by have:=au.size;simp at this;omega
   go_wp2_with fail
   go_ret;refine⟨al ?_,(dF _).trans (au.mono (by simp))⟩
   first | exact aa R | (rw[<-aa R];simp;omega) | (rw[<-aa R];simp)
theorem xN (kind num:Int)(flt:Nat)(str:ByteArray)(ref:Int)(w:World)(h0:(kind==0)=false)(h1:(kind==1)=false)(h2:(kind==2)=false)(h3:(kind==3)=false)(h4:(kind==4)=false)(h5:(kind==5)=false)(h6:(kind==6)=false)(h7:(kind==7)=false)(h8:(kind==8)=false) :
  c_ 134 #[.agg #[i_ kind,i_ num,.float .f64 flt,.string str,i_ ref]] w fun e w'=>e=.returned (.bool false)/\b_ w w':=by
 have dF:∀ o,b_ w (w.alloc o):=fun o=>r_.alloc n_ o;go_enter Tryz.func134,Tryz.ntmps134;go_wp2_with fail
 go_ret;exact⟨rfl,dF _⟩
theorem zU (n:cS)(w:World)(hs:n.str.size<=9223372036854775807):c_ 134 #[.agg #[i_ n.kind,i_ n.num,.float .f64 n.flt,.string n.str,i_ n.ref]] w fun e w'=>e=.returned (.bool (aJ n))/\b_ w w':=by
 obtain⟨kind,num,flt,str,ref⟩:=n;simp only at *;by_cases h0:kind=0
 ·aj h0;exact FZ num flt str ref w hs
 by_cases h1:kind=1
 ·aj h1;exact Gh num flt str ref w hs
 by_cases h2:kind=2
 ·aj h2;exact Fz num flt str ref w hs
 by_cases h3:kind=3
 ·aj h3;exact F4 num flt str ref w hs
 by_cases h4:kind=4
 ·aj h4;exact Fv num flt str ref w hs
 by_cases h5:kind=5
 ·aj h5;exact G9 num flt str ref w hs
 by_cases h6:kind=6
 ·aj h6;exact G6 num flt str ref w hs
 by_cases h7:kind=7
 ·aj h7;exact Ha num flt str ref w hs
 by_cases h8:kind=8
 ·aj h8;exact G7 num flt str ref w hs
 have e:aJ ⟨kind,num,flt,str,ref⟩=false:=by
  unfold aJ;simp only[h0,h1,h2,h3,h4,h5,h6,h7,h8,if_false]
 rw[e];exact xN kind num flt str ref w (beq_eq_false_iff_ne.2 h0) (beq_eq_false_iff_ne.2 h1) (beq_eq_false_iff_ne.2 h2) (beq_eq_false_iff_ne.2 h3) (beq_eq_false_iff_ne.2 h4) (beq_eq_false_iff_ne.2 h5) (beq_eq_false_iff_ne.2 h6) (beq_eq_false_iff_ne.2 h7) (beq_eq_false_iff_ne.2 h8)
def ue (x:Nat):Bool:=FloatKind.f64.format.order x x==some Ordering.eq
theorem Jy (x:Nat)(h:cJ x=true):∃ q,floatBits .quo .f64 4607182418800017408 x=some q:=by
 have h2:FloatKind.f64.format.order x 0=some Ordering.eq:=by simpa[cJ]using h
 have h':(Ieee.double.read x).order (Ieee.double.read 0)=some Ordering.eq:=h2;show ∃ q,((Ieee.double.read 4607182418800017408).quotient (Ieee.double.fractionBits+2) (Ieee.double.read x)).map Ieee.double.write=some q;rw[tJ];generalize Ieee.double.read x=d at h';cases d with
 | number s m i=>
  simp only[Ieee.Datum.quotient];by_cases e:m=0
  ·simp[e]
  ·simp[e]
 | infinity s=>simp[Ieee.Datum.quotient]
 | nan s f=>simp[Ieee.Datum.order]at h'
def rp (x:Nat):Bool:=match floatBits .quo .f64 4607182418800017408 x with
 | some q=>FloatKind.f64.format.order q 0==some Ordering.gt
 | none=>false
def dv (n:cS):Bool:=
 aJ n && !(n.kind==5||n.kind==6||n.kind==7)&&(if n.kind=3 then ue n.flt else cJ n.flt&&rp n.flt)
theorem vN (n:cS)(w:World)(hs:n.str.size<=9223372036854775807):c_ 98 #[.agg #[i_ n.kind,i_ n.num,.float .f64 n.flt,.string n.str,i_ n.ref]] w fun e w'=>e=.returned (.bool (dv n))/\b_ w w':=by
 have dF:∀ o,b_ w (w.alloc o):=fun o=>r_.alloc n_ o;have Z:=af (fun W=>zU n W hs);have E:Hid (dv n=(aJ n && !(n.kind==5||n.kind==6||n.kind==7)&&(if n.kind=3 then ue n.flt else cJ n.flt&&rp n.flt))):=rfl;obtain⟨kind,num,flt,str,ref⟩:=n;simp only at *;generalize aJ ⟨kind,num,flt,str,ref⟩=vo at *;generalize y5:dv ⟨kind,num,flt,str,ref⟩=res at *;clear y5;cases vo
 ·have R:Hid (false=res):=by show _=_;rw[E.out];rfl
  clear E;go_enter Tryz.func98,Tryz.ntmps98;go_wp2_with fail
  refine(aa Z _).mono ?_;rintro e w1 ⟨rfl,au⟩;go_wp2_with fail
  go_ret;exact⟨al (aa R),(dF _).trans (au.mono (by simp))⟩
 cases k5:kind==5
 case true=>
  have R:Hid (false=res):=by show _=_;rw[E.out,k5];rfl
  clear E;go_enter Tryz.func98,Tryz.ntmps98;go_wp2_with fail
  refine(aa Z _).mono ?_;rintro e w1 ⟨rfl,au⟩;obtain⟨cU,fJ⟩:=cz au;have cT:w.heap.size<w1.heap.size:=by have:=au.size;simp at this;omega
  go_wp2_with fail
  go_ret;exact⟨al (aa R),(dF _).trans (au.mono (by simp))⟩
 cases k6:kind==6
 case true=>
  have R:Hid (false=res):=by show _=_;rw[E.out,k5,k6];rfl
  clear E;go_enter Tryz.func98,Tryz.ntmps98;go_wp2_with fail
  refine(aa Z _).mono ?_;rintro e w1 ⟨rfl,au⟩;obtain⟨cU,fJ⟩:=cz au;have cT:w.heap.size<w1.heap.size:=by have:=au.size;simp at this;omega
  go_wp2_with fail
  go_ret;exact⟨al (aa R),(dF _).trans (au.mono (by simp))⟩
 cases k7:kind==7
 case true=>
  have R:Hid (false=res):=by show _=_;rw[E.out,k5,k6,k7];rfl
  clear E;go_enter Tryz.func98,Tryz.ntmps98;go_wp2_with fail
  refine(aa Z _).mono ?_;rintro e w1 ⟨rfl,au⟩;obtain⟨cU,fJ⟩:=cz au;have cT:w.heap.size<w1.heap.size:=by have:=au.size;simp at this;omega
  go_wp2_with fail
  go_ret;exact⟨al (aa R),(dF _).trans (au.mono (by simp))⟩
 have E2:Hid (res=(if kind=3 then ue flt else cJ flt&&rp flt)):=by show _=_;rw[E.out,k5,k6,k7];rfl
 clear E;by_cases k3:kind=3
 ·have R:Hid ((FloatKind.f64.format.order flt flt==some Ordering.eq)=res):=by show _=_;rw[E2.out,if_pos k3];rfl
  have k3b:(kind != 3)=false:=by simpa using k3
  clear E2 k3;go_enter Tryz.func98,Tryz.ntmps98;go_wp2_with fail
  refine(aa Z _).mono ?_;rintro e w1 ⟨rfl,au⟩;obtain⟨cU,fJ⟩:=cz au;have cT:w.heap.size<w1.heap.size:=by have:=au.size;simp at this;omega
  go_wp2_with fail
  go_ret;exact⟨al (aa R),(dF _).trans (au.mono (by simp))⟩
 have k3b:(kind != 3)=true:=by simpa using k3
 cases fz:cJ flt
 ·have R:Hid (false=res):=by show _=_;rw[E2.out,if_neg k3,fz];rfl
  have vi:(FloatKind.f64.format.order flt 0==some Ordering.eq)=false:=fz;clear E2 k3 fz;go_enter Tryz.func98,Tryz.ntmps98;go_wp2_with fail
  refine(aa Z _).mono ?_;rintro e w1 ⟨rfl,au⟩;obtain⟨cU,fJ⟩:=cz au;have cT:w.heap.size<w1.heap.size:=by have:=au.size;simp at this;omega
  go_wp2_with fail
  go_ret;exact⟨al (aa R),(dF _).trans (au.mono (by simp))⟩
 ·obtain⟨q,hq⟩:=Jy flt fz;have R:Hid ((FloatKind.f64.format.order q 0==some Ordering.gt)=res):=by
   show _=_;rw[E2.out,if_neg k3,fz];unfold rp;rw[hq];rfl
  have vi:(FloatKind.f64.format.order flt 0==some Ordering.eq)=true:=fz;have Ia:∀ w:World,(binOp .quo 47 (.float .f64 4607182418800017408) (.float .f64 flt)).run Tryz.prog w=.ok (.float .f64 q) w:=fun w=>run_float_arith (w:=w) (P:=Tryz.prog) .quo 47 .f64 4607182418800017408 flt q hq;clear E2 k3 fz hq;go_enter Tryz.func98,Tryz.ntmps98;go_wp2_with fail
  refine(aa Z _).mono ?_;rintro e w1 ⟨rfl,au⟩;obtain⟨cU,fJ⟩:=cz au;have cT:w.heap.size<w1.heap.size:=by have:=au.size;simp at this;omega
  go_wp2_with fail
  go_ret;exact⟨al (aa R),(dF _).trans (au.mono (by simp))⟩
end Go.Proofs.YtcjfjflljdojlaaGreatDoor

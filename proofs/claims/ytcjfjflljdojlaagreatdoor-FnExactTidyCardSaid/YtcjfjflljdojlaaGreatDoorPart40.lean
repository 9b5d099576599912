import Derived.Test.YtcjfjflljdojlaaGreatDoorPart39
import Derived.Deep.RegionHeld3
set_option linter.unusedSimpArgs false
set_option linter.unusedVariables false
set_option maxHeartbeats 4000000
namespace Go.Proofs.YtcjfjflljdojlaaGreatDoor
open Go.RowKit
theorem uI {fa fb fc fd:Int}{g:List bg}:iz ⟨31,fa,fb,fc,fd⟩ g=(decide ((g.length:Int)<50)&&decide (eW g<=fb)):=rfl
theorem tO {fa fb fc fd:Int}{g:List bg}:iz ⟨33,fa,fb,fc,fd⟩ g=(decide ((g.length:Int)<50)&&decide (eW g<=fa)):=rfl
theorem pY {fa fb fc fd:Int}{g:List bg}:iz ⟨34,fa,fb,fc,fd⟩ g=((decide (0<g.length) && !(iN g).tr)&&decide (eW g<=fa)):=rfl
theorem uF {fa fb fc fd:Int}{g:List bg}:iz ⟨35,fa,fb,fc,fd⟩ g=(decide (0<g.length) && !(iN g).tr):=rfl
theorem qt {fa fb fc fd:Int}{g:List bg}:iz ⟨36,fa,fb,fc,fd⟩ g=(decide (0<g.length) && !(iN g).tr):=rfl
theorem pO {fa fb fc fd:Int}{g:List bg}:iz ⟨32,fa,fb,fc,fd⟩ g=(decide (0<g.length)&&(iN g).tr):=rfl
theorem oQ {op fa fb fc fd:Int}{g:List bg}(h1:op≠31)(h2:op≠33)(h3:op≠34)(h4:op≠35)(h5:op≠36)(h6:op≠32):iz ⟨op,fa,fb,fc,fd⟩ g=true:=by
 unfold iz;simp[h1,h2,h3,h4,h5,h6]
def dq (r:Bool)(w:World)(e:Ending)(w':World):Prop:=e=.returned (.bool r)/\b_ w w'
theorem MA (fa fb fc fd:Int)(k:Int)(c:Nat)(a:o_)(w:World)(HK:∀ W:World,b_ w W->c_ 147 #[.slice a 0 c] W fun e w2=>e=.returned (i_ k)/\b_ W w2):c_ 122 #[.agg #[i_ 31,i_ fa,i_ fb,i_ fc,i_ fd],.slice a 0 c] w (dq (decide (k<=fb)) w):=by
 have HA:Hid (b_ w (w.alloc (.cells #[i_ 31,i_ fa,i_ fb,i_ fc,i_ fd] 51))):=r_.alloc n_ _;have CK:Hid (c_ 147 #[.slice a 0 c] ((w.alloc (.cells #[i_ 31,i_ fa,i_ fb,i_ fc,i_ fd] 51))).drew fun e w2=>e=.returned (i_ k)/\Below ((w.alloc (.cells #[i_ 31,i_ fa,i_ fb,i_ fc,i_ fd] 51))).drew.heap.size ((w.alloc (.cells #[i_ 31,i_ fa,i_ fb,i_ fc,i_ fd] 51))).drew w2):=HK _ HA.out.drew;clear HK;go_enter Tryz.func122,Tryz.ntmps122
 go_upto_region 6 with fail
 go_region_held3 (fun w'=>w'.cell? (a_ w.heap.size 2)=some (i_ fb)) (simp[go_sem, *])
  (first | (go_at_call 147;refine(aa CK).mono ?_;rintro e w3 ⟨rfl,bY⟩;have q0:w3.cell? (a_ w.heap.size 2)=some (i_ fb):=(bY.cell (p:=(a_ w.heap.size 2)) (by simp)).trans (by simp[go_sem])))
 all_goals
  have jg:Hid (b_ w w3):=HA.out.drew.trans (bY.mono (by simp));clear bY;go_wp2_with fail
  go_ret;exact⟨al (by simp),jg.out⟩
theorem IS (fa fb fc fd:Int)(k:Int)(c:Nat)(b off m:Nat)(w:World)(c0:w.cell? (a_ b (off+m * 3))=some (.bool false))(hm:m<50)(HK:∀ W:World,b_ w W->c_ 147 #[.slice (some (a_ b off)) (m+1) c] W fun e w2=>e=.returned (i_ k)/\b_ W w2)(ax:m+1<50):c_ 122 #[.agg #[i_ 31,i_ fa,i_ fb,i_ fc,i_ fd],.slice (some (a_ b off)) (m+1) c] w (dq (decide (k<=fb)) w):=by
 have HA:Hid (b_ w (w.alloc (.cells #[i_ 31,i_ fa,i_ fb,i_ fc,i_ fd] 51))):=r_.alloc n_ _;have cZ:b<w.heap.size:=World.block_lt_of_cell? _ _ c0;have c1:((w.alloc (.cells #[i_ 31,i_ fa,i_ fb,i_ fc,i_ fd] 51))).cell? (a_ b (off+m * 3))=some (.bool false):=(HA.out.cell (p:=(a_ b (off+m * 3))) cZ).trans c0;have CK:Hid (c_ 147 #[.slice (some (a_ b off)) (m+1) c] ((w.alloc (.cells #[i_ 31,i_ fa,i_ fb,i_ fc,i_ fd] 51))).drew fun e w2=>e=.returned (i_ k)/\Below ((w.alloc (.cells #[i_ 31,i_ fa,i_ fb,i_ fc,i_ fd] 51))).drew.heap.size ((w.alloc (.cells #[i_ 31,i_ fa,i_ fb,i_ fc,i_ fd] 51))).drew w2):=HK _ HA.out.drew;have hd:decide ((m:Int)+1<50)=true:=decide_eq_true (by omega);clear ax;clear HK;go_enter Tryz.func122,Tryz.ntmps122
 go_upto_region 6 with fail
 go_region_held3 (fun w'=>w'.cell? (a_ w.heap.size 2)=some (i_ fb)) (simp[go_sem, *])
  (first | (go_at_call 147;refine(aa CK).mono ?_;rintro e w3 ⟨rfl,bY⟩;have q0:w3.cell? (a_ w.heap.size 2)=some (i_ fb):=(bY.cell (p:=(a_ w.heap.size 2)) (by simp)).trans (by simp[go_sem])))
 all_goals
  have jg:Hid (b_ w w3):=HA.out.drew.trans (bY.mono (by simp));clear bY;go_wp2_with fail
  go_ret;exact⟨al (by simp),jg.out⟩
theorem Jt (fa fb fc fd:Int)(k:Int)(c:Nat)(b off m:Nat)(w:World)(c0:w.cell? (a_ b (off+m * 3))=some (.bool false))(hm:m<50)(HK:∀ W:World,b_ w W->c_ 147 #[.slice (some (a_ b off)) (m+1) c] W fun e w2=>e=.returned (i_ k)/\b_ W w2)(ax:¬m+1<50):c_ 122 #[.agg #[i_ 31,i_ fa,i_ fb,i_ fc,i_ fd],.slice (some (a_ b off)) (m+1) c] w (dq false w):=by
 have HA:Hid (b_ w (w.alloc (.cells #[i_ 31,i_ fa,i_ fb,i_ fc,i_ fd] 51))):=r_.alloc n_ _;have cZ:b<w.heap.size:=World.block_lt_of_cell? _ _ c0;have c1:((w.alloc (.cells #[i_ 31,i_ fa,i_ fb,i_ fc,i_ fd] 51))).cell? (a_ b (off+m * 3))=some (.bool false):=(HA.out.cell (p:=(a_ b (off+m * 3))) cZ).trans c0;have hd:decide ((m:Int)+1<50)=false:=decide_eq_false (by omega);clear ax;clear HK;go_enter Tryz.func122,Tryz.ntmps122;go_wp2_with fail
 go_quiet (fail)
 go_wp2_with fail
 go_ret;exact⟨al rfl,HA.out.trans (ay _ _ _)⟩
theorem Kh (fa fb fc fd:Int)(k:Int)(c:Nat)(b off m:Nat)(w:World)(c0:w.cell? (a_ b (off+m * 3))=some (.bool true))(hm:m<50)(HK:∀ W:World,b_ w W->c_ 147 #[.slice (some (a_ b off)) (m+1) c] W fun e w2=>e=.returned (i_ k)/\b_ W w2)(ax:m+1<50):c_ 122 #[.agg #[i_ 31,i_ fa,i_ fb,i_ fc,i_ fd],.slice (some (a_ b off)) (m+1) c] w (dq (decide (k<=fb)) w):=by
 have HA:Hid (b_ w (w.alloc (.cells #[i_ 31,i_ fa,i_ fb,i_ fc,i_ fd] 51))):=r_.alloc n_ _;have cZ:b<w.heap.size:=World.block_lt_of_cell? _ _ c0;have c1:((w.alloc (.cells #[i_ 31,i_ fa,i_ fb,i_ fc,i_ fd] 51))).cell? (a_ b (off+m * 3))=some (.bool true):=(HA.out.cell (p:=(a_ b (off+m * 3))) cZ).trans c0;have CK:Hid (c_ 147 #[.slice (some (a_ b off)) (m+1) c] ((w.alloc (.cells #[i_ 31,i_ fa,i_ fb,i_ fc,i_ fd] 51))).drew fun e w2=>e=.returned (i_ k)/\Below ((w.alloc (.cells #[i_ 31,i_ fa,i_ fb,i_ fc,i_ fd] 51))).drew.heap.size ((w.alloc (.cells #[i_ 31,i_ fa,i_ fb,i_ fc,i_ fd] 51))).drew w2):=HK _ HA.out.drew;have hd:decide ((m:Int)+1<50)=true:=decide_eq_true (by omega);clear ax;clear HK;go_enter Tryz.func122,Tryz.ntmps122
 go_upto_region 6 with fail
 go_region_held3 (fun w'=>w'.cell? (a_ w.heap.size 2)=some (i_ fb)) (simp[go_sem, *])
  (first | (go_at_call 147;refine(aa CK).mono ?_;rintro e w3 ⟨rfl,bY⟩;have q0:w3.cell? (a_ w.heap.size 2)=some (i_ fb):=(bY.cell (p:=(a_ w.heap.size 2)) (by simp)).trans (by simp[go_sem])))
 all_goals
  have jg:Hid (b_ w w3):=HA.out.drew.trans (bY.mono (by simp));clear bY;go_wp2_with fail
  go_ret;exact⟨al (by simp),jg.out⟩
theorem Ka (fa fb fc fd:Int)(k:Int)(c:Nat)(b off m:Nat)(w:World)(c0:w.cell? (a_ b (off+m * 3))=some (.bool true))(hm:m<50)(HK:∀ W:World,b_ w W->c_ 147 #[.slice (some (a_ b off)) (m+1) c] W fun e w2=>e=.returned (i_ k)/\b_ W w2)(ax:¬m+1<50):c_ 122 #[.agg #[i_ 31,i_ fa,i_ fb,i_ fc,i_ fd],.slice (some (a_ b off)) (m+1) c] w (dq false w):=by
 have HA:Hid (b_ w (w.alloc (.cells #[i_ 31,i_ fa,i_ fb,i_ fc,i_ fd] 51))):=r_.alloc n_ _;have cZ:b<w.heap.size:=World.block_lt_of_cell? _ _ c0;have c1:((w.alloc (.cells #[i_ 31,i_ fa,i_ fb,i_ fc,i_ fd] 51))).cell? (a_ b (off+m * 3))=some (.bool true):=(HA.out.cell (p:=(a_ b (off+m * 3))) cZ).trans c0;have hd:decide ((m:Int)+1<50)=false:=decide_eq_false (by omega);clear ax;clear HK;go_enter Tryz.func122,Tryz.ntmps122;go_wp2_with fail
 go_quiet (fail)
 go_wp2_with fail
 go_ret;exact⟨al rfl,HA.out.trans (ay _ _ _)⟩
theorem MZ (fa fb fc fd:Int)(k:Int)(c:Nat)(a:o_)(w:World)(HK:∀ W:World,b_ w W->c_ 147 #[.slice a 0 c] W fun e w2=>e=.returned (i_ k)/\b_ W w2):c_ 122 #[.agg #[i_ 33,i_ fa,i_ fb,i_ fc,i_ fd],.slice a 0 c] w (dq (decide (k<=fa)) w):=by
 have HA:Hid (b_ w (w.alloc (.cells #[i_ 33,i_ fa,i_ fb,i_ fc,i_ fd] 51))):=r_.alloc n_ _;have CK:Hid (c_ 147 #[.slice a 0 c] ((w.alloc (.cells #[i_ 33,i_ fa,i_ fb,i_ fc,i_ fd] 51))).drew fun e w2=>e=.returned (i_ k)/\Below ((w.alloc (.cells #[i_ 33,i_ fa,i_ fb,i_ fc,i_ fd] 51))).drew.heap.size ((w.alloc (.cells #[i_ 33,i_ fa,i_ fb,i_ fc,i_ fd] 51))).drew w2):=HK _ HA.out.drew;clear HK;go_enter Tryz.func122,Tryz.ntmps122
 go_upto_region 8 with fail
 go_region_held3 (fun w'=>w'.cell? (a_ w.heap.size 1)=some (i_ fa)) (simp[go_sem, *])
  (first | (go_at_call 147;refine(aa CK).mono ?_;rintro e w3 ⟨rfl,bY⟩;have q0:w3.cell? (a_ w.heap.size 1)=some (i_ fa):=(bY.cell (p:=(a_ w.heap.size 1)) (by simp)).trans (by simp[go_sem])))
 all_goals
  have jg:Hid (b_ w w3):=HA.out.drew.trans (bY.mono (by simp));clear bY;go_wp2_with fail
  go_ret;exact⟨al (by simp),jg.out⟩
theorem IJ (fa fb fc fd:Int)(k:Int)(c:Nat)(b off m:Nat)(w:World)(c0:w.cell? (a_ b (off+m * 3))=some (.bool false))(hm:m<50)(HK:∀ W:World,b_ w W->c_ 147 #[.slice (some (a_ b off)) (m+1) c] W fun e w2=>e=.returned (i_ k)/\b_ W w2)(ax:m+1<50):c_ 122 #[.agg #[i_ 33,i_ fa,i_ fb,i_ fc,i_ fd],.slice (some (a_ b off)) (m+1) c] w (dq (decide (k<=fa)) w):=by
 have HA:Hid (b_ w (w.alloc (.cells #[i_ 33,i_ fa,i_ fb,i_ fc,i_ fd] 51))):=r_.alloc n_ _;have cZ:b<w.heap.size:=World.block_lt_of_cell? _ _ c0;have c1:((w.alloc (.cells #[i_ 33,i_ fa,i_ fb,i_ fc,i_ fd] 51))).cell? (a_ b (off+m * 3))=some (.bool false):=(HA.out.cell (p:=(a_ b (off+m * 3))) cZ).trans c0;have CK:Hid (c_ 147 #[.slice (some (a_ b off)) (m+1) c] ((w.alloc (.cells #[i_ 33,i_ fa,i_ fb,i_ fc,i_ fd] 51))).drew fun e w2=>e=.returned (i_ k)/\Below ((w.alloc (.cells #[i_ 33,i_ fa,i_ fb,i_ fc,i_ fd] 51))).drew.heap.size ((w.alloc (.cells #[i_ 33,i_ fa,i_ fb,i_ fc,i_ fd] 51))).drew w2):=HK _ HA.out.drew;have hd:decide ((m:Int)+1<50)=true:=decide_eq_true (by omega);clear ax;clear HK;go_enter Tryz.func122,Tryz.ntmps122
 go_upto_region 8 with fail
 go_region_held3 (fun w'=>w'.cell? (a_ w.heap.size 1)=some (i_ fa)) (simp[go_sem, *])
  (first | (go_at_call 147;refine(aa CK).mono ?_;rintro e w3 ⟨rfl,bY⟩;have q0:w3.cell? (a_ w.heap.size 1)=some (i_ fa):=(bY.cell (p:=(a_ w.heap.size 1)) (by simp)).trans (by simp[go_sem])))
 all_goals
  have jg:Hid (b_ w w3):=HA.out.drew.trans (bY.mono (by simp));clear bY;go_wp2_with fail
  go_ret;exact⟨al (by simp),jg.out⟩
theorem JA (fa fb fc fd:Int)(k:Int)(c:Nat)(b off m:Nat)(w:World)(c0:w.cell? (a_ b (off+m * 3))=some (.bool false))(hm:m<50)(HK:∀ W:World,b_ w W->c_ 147 #[.slice (some (a_ b off)) (m+1) c] W fun e w2=>e=.returned (i_ k)/\b_ W w2)(ax:¬m+1<50):c_ 122 #[.agg #[i_ 33,i_ fa,i_ fb,i_ fc,i_ fd],.slice (some (a_ b off)) (m+1) c] w (dq false w):=by
 have HA:Hid (b_ w (w.alloc (.cells #[i_ 33,i_ fa,i_ fb,i_ fc,i_ fd] 51))):=r_.alloc n_ _;have cZ:b<w.heap.size:=World.block_lt_of_cell? _ _ c0;have c1:((w.alloc (.cells #[i_ 33,i_ fa,i_ fb,i_ fc,i_ fd] 51))).cell? (a_ b (off+m * 3))=some (.bool false):=(HA.out.cell (p:=(a_ b (off+m * 3))) cZ).trans c0;have hd:decide ((m:Int)+1<50)=false:=decide_eq_false (by omega);clear ax;clear HK;go_enter Tryz.func122,Tryz.ntmps122;go_wp2_with fail
 go_quiet (fail)
 go_wp2_with fail
 go_ret;exact⟨al rfl,HA.out.trans (ay _ _ _)⟩
theorem JS (fa fb fc fd:Int)(k:Int)(c:Nat)(b off m:Nat)(w:World)(c0:w.cell? (a_ b (off+m * 3))=some (.bool true))(hm:m<50)(HK:∀ W:World,b_ w W->c_ 147 #[.slice (some (a_ b off)) (m+1) c] W fun e w2=>e=.returned (i_ k)/\b_ W w2)(ax:m+1<50):c_ 122 #[.agg #[i_ 33,i_ fa,i_ fb,i_ fc,i_ fd],.slice (some (a_ b off)) (m+1) c] w (dq (decide (k<=fa)) w):=by
 have HA:Hid (b_ w (w.alloc (.cells #[i_ 33,i_ fa,i_ fb,i_ fc,i_ fd] 51))):=r_.alloc n_ _;have cZ:b<w.heap.size:=World.block_lt_of_cell? _ _ c0;have c1:((w.alloc (.cells #[i_ 33,i_ fa,i_ fb,i_ fc,i_ fd] 51))).cell? (a_ b (off+m * 3))=some (.bool true):=(HA.out.cell (p:=(a_ b (off+m * 3))) cZ).trans c0;have CK:Hid (c_ 147 #[.slice (some (a_ b off)) (m+1) c] ((w.alloc (.cells #[i_ 33,i_ fa,i_ fb,i_ fc,i_ fd] 51))).drew fun e w2=>e=.returned (i_ k)/\Below ((w.alloc (.cells #[i_ 33,i_ fa,i_ fb,i_ fc,i_ fd] 51))).drew.heap.size ((w.alloc (.cells #[i_ 33,i_ fa,i_ fb,i_ fc,i_ fd] 51))).drew w2):=HK _ HA.out.drew;have hd:decide ((m:Int)+1<50)=true:=decide_eq_true (by omega);clear ax;clear HK;go_enter Tryz.func122,Tryz.ntmps122
 go_upto_region 8 with fail
 go_region_held3 (fun w'=>w'.cell? (a_ w.heap.size 1)=some (i_ fa)) (simp[go_sem, *])
  (first | (go_at_call 147;refine(aa CK).mono ?_;rintro e w3 ⟨rfl,bY⟩;have q0:w3.cell? (a_ w.heap.size 1)=some (i_ fa):=(bY.cell (p:=(a_ w.heap.size 1)) (by simp)).trans (by simp[go_sem])))
 all_goals
  have jg:Hid (b_ w w3):=HA.out.drew.trans (bY.mono (by simp));clear bY;go_wp2_with fail
  go_ret;exact⟨al (by simp),jg.out⟩
theorem JE (fa fb fc fd:Int)(k:Int)(c:Nat)(b off m:Nat)(w:World)(c0:w.cell? (a_ b (off+m * 3))=some (.bool true))(hm:m<50)(HK:∀ W:World,b_ w W->c_ 147 #[.slice (some (a_ b off)) (m+1) c] W fun e w2=>e=.returned (i_ k)/\b_ W w2)(ax:¬m+1<50):c_ 122 #[.agg #[i_ 33,i_ fa,i_ fb,i_ fc,i_ fd],.slice (some (a_ b off)) (m+1) c] w (dq false w):=by
 have HA:Hid (b_ w (w.alloc (.cells #[i_ 33,i_ fa,i_ fb,i_ fc,i_ fd] 51))):=r_.alloc n_ _;have cZ:b<w.heap.size:=World.block_lt_of_cell? _ _ c0;have c1:((w.alloc (.cells #[i_ 33,i_ fa,i_ fb,i_ fc,i_ fd] 51))).cell? (a_ b (off+m * 3))=some (.bool true):=(HA.out.cell (p:=(a_ b (off+m * 3))) cZ).trans c0;have hd:decide ((m:Int)+1<50)=false:=decide_eq_false (by omega);clear ax;clear HK;go_enter Tryz.func122,Tryz.ntmps122;go_wp2_with fail
 go_quiet (fail)
 go_wp2_with fail
 go_ret;exact⟨al rfl,HA.out.trans (ay _ _ _)⟩
theorem Nn (fa fb fc fd:Int)(k:Int)(c:Nat)(a:o_)(w:World)(HK:∀ W:World,b_ w W->c_ 147 #[.slice a 0 c] W fun e w2=>e=.returned (i_ k)/\b_ W w2):c_ 122 #[.agg #[i_ 34,i_ fa,i_ fb,i_ fc,i_ fd],.slice a 0 c] w (dq false w):=by
 have HA:Hid (b_ w (w.alloc (.cells #[i_ 34,i_ fa,i_ fb,i_ fc,i_ fd] 51))):=r_.alloc n_ _;clear HK;go_enter Tryz.func122,Tryz.ntmps122;go_wp2_with fail
 go_quiet (fail)
 go_wp2_with fail
 go_ret;exact⟨al rfl,HA.out.trans (ay _ _ _)⟩
theorem Mj (fa fb fc fd:Int)(k:Int)(c:Nat)(b off m:Nat)(w:World)(c0:w.cell? (a_ b (off+m * 3))=some (.bool false))(hm:m<50)(HK:∀ W:World,b_ w W->c_ 147 #[.slice (some (a_ b off)) (m+1) c] W fun e w2=>e=.returned (i_ k)/\b_ W w2):c_ 122 #[.agg #[i_ 34,i_ fa,i_ fb,i_ fc,i_ fd],.slice (some (a_ b off)) (m+1) c] w (dq (decide (k<=fa)) w):=by
 have HA:Hid (b_ w (w.alloc (.cells #[i_ 34,i_ fa,i_ fb,i_ fc,i_ fd] 51))):=r_.alloc n_ _;have cZ:b<w.heap.size:=World.block_lt_of_cell? _ _ c0;have c1:((w.alloc (.cells #[i_ 34,i_ fa,i_ fb,i_ fc,i_ fd] 51))).cell? (a_ b (off+m * 3))=some (.bool false):=(HA.out.cell (p:=(a_ b (off+m * 3))) cZ).trans c0;have CK:Hid (c_ 147 #[.slice (some (a_ b off)) (m+1) c] ((w.alloc (.cells #[i_ 34,i_ fa,i_ fb,i_ fc,i_ fd] 51))).drew fun e w2=>e=.returned (i_ k)/\Below ((w.alloc (.cells #[i_ 34,i_ fa,i_ fb,i_ fc,i_ fd] 51))).drew.heap.size ((w.alloc (.cells #[i_ 34,i_ fa,i_ fb,i_ fc,i_ fd] 51))).drew w2):=HK _ HA.out.drew;clear HK;go_enter Tryz.func122,Tryz.ntmps122
 go_upto_region 10 with fail
 go_region_held3 (fun w'=>w'.cell? (a_ w.heap.size 1)=some (i_ fa)) (simp[go_sem, *])
  (first | (go_at_call 147;refine(aa CK).mono ?_;rintro e w3 ⟨rfl,bY⟩;have q0:w3.cell? (a_ w.heap.size 1)=some (i_ fa):=(bY.cell (p:=(a_ w.heap.size 1)) (by simp)).trans (by simp[go_sem])))
 all_goals
  have jg:Hid (b_ w w3):=HA.out.drew.trans (bY.mono (by simp));clear bY;go_wp2_with fail
  go_ret;exact⟨al (by simp),jg.out⟩
theorem Nf (fa fb fc fd:Int)(k:Int)(c:Nat)(b off m:Nat)(w:World)(c0:w.cell? (a_ b (off+m * 3))=some (.bool true))(hm:m<50)(HK:∀ W:World,b_ w W->c_ 147 #[.slice (some (a_ b off)) (m+1) c] W fun e w2=>e=.returned (i_ k)/\b_ W w2):c_ 122 #[.agg #[i_ 34,i_ fa,i_ fb,i_ fc,i_ fd],.slice (some (a_ b off)) (m+1) c] w (dq false w):=by
 have HA:Hid (b_ w (w.alloc (.cells #[i_ 34,i_ fa,i_ fb,i_ fc,i_ fd] 51))):=r_.alloc n_ _;have cZ:b<w.heap.size:=World.block_lt_of_cell? _ _ c0;have c1:((w.alloc (.cells #[i_ 34,i_ fa,i_ fb,i_ fc,i_ fd] 51))).cell? (a_ b (off+m * 3))=some (.bool true):=(HA.out.cell (p:=(a_ b (off+m * 3))) cZ).trans c0;clear HK;go_enter Tryz.func122,Tryz.ntmps122;go_wp2_with fail
 go_quiet (fail)
 go_wp2_with fail
 go_ret;exact⟨al rfl,HA.out.trans (ay _ _ _)⟩
theorem Nu (fa fb fc fd:Int)(k:Int)(c:Nat)(a:o_)(w:World)(HK:∀ W:World,b_ w W->c_ 147 #[.slice a 0 c] W fun e w2=>e=.returned (i_ k)/\b_ W w2):c_ 122 #[.agg #[i_ 35,i_ fa,i_ fb,i_ fc,i_ fd],.slice a 0 c] w (dq false w):=by
 have HA:Hid (b_ w (w.alloc (.cells #[i_ 35,i_ fa,i_ fb,i_ fc,i_ fd] 51))):=r_.alloc n_ _;clear HK;go_enter Tryz.func122,Tryz.ntmps122;go_wp2_with fail
 go_ret;exact⟨al rfl,HA.out⟩
theorem Na (fa fb fc fd:Int)(k:Int)(c:Nat)(b off m:Nat)(w:World)(c0:w.cell? (a_ b (off+m * 3))=some (.bool false))(hm:m<50)(HK:∀ W:World,b_ w W->c_ 147 #[.slice (some (a_ b off)) (m+1) c] W fun e w2=>e=.returned (i_ k)/\b_ W w2):c_ 122 #[.agg #[i_ 35,i_ fa,i_ fb,i_ fc,i_ fd],.slice (some (a_ b off)) (m+1) c] w (dq true w):=by
 have HA:Hid (b_ w (w.alloc (.cells #[i_ 35,i_ fa,i_ fb,i_ fc,i_ fd] 51))):=r_.alloc n_ _;have cZ:b<w.heap.size:=World.block_lt_of_cell? _ _ c0;have c1:((w.alloc (.cells #[i_ 35,i_ fa,i_ fb,i_ fc,i_ fd] 51))).cell? (a_ b (off+m * 3))=some (.bool false):=(HA.out.cell (p:=(a_ b (off+m * 3))) cZ).trans c0;clear HK;go_enter Tryz.func122,Tryz.ntmps122;go_wp2_with fail
 go_ret;exact⟨al rfl,HA.out⟩
theorem Mg (fa fb fc fd:Int)(k:Int)(c:Nat)(b off m:Nat)(w:World)(c0:w.cell? (a_ b (off+m * 3))=some (.bool true))(hm:m<50)(HK:∀ W:World,b_ w W->c_ 147 #[.slice (some (a_ b off)) (m+1) c] W fun e w2=>e=.returned (i_ k)/\b_ W w2):c_ 122 #[.agg #[i_ 35,i_ fa,i_ fb,i_ fc,i_ fd],.slice (some (a_ b off)) (m+1) c] w (dq false w):=by
 have HA:Hid (b_ w (w.alloc (.cells #[i_ 35,i_ fa,i_ fb,i_ fc,i_ fd] 51))):=r_.alloc n_ _;have cZ:b<w.heap.size:=World.block_lt_of_cell? _ _ c0;have c1:((w.alloc (.cells #[i_ 35,i_ fa,i_ fb,i_ fc,i_ fd] 51))).cell? (a_ b (off+m * 3))=some (.bool true):=(HA.out.cell (p:=(a_ b (off+m * 3))) cZ).trans c0;clear HK;go_enter Tryz.func122,Tryz.ntmps122;go_wp2_with fail
 go_ret;exact⟨al rfl,HA.out⟩
theorem MQ (fa fb fc fd:Int)(k:Int)(c:Nat)(a:o_)(w:World)(HK:∀ W:World,b_ w W->c_ 147 #[.slice a 0 c] W fun e w2=>e=.returned (i_ k)/\b_ W w2):c_ 122 #[.agg #[i_ 36,i_ fa,i_ fb,i_ fc,i_ fd],.slice a 0 c] w (dq false w):=by
 have HA:Hid (b_ w (w.alloc (.cells #[i_ 36,i_ fa,i_ fb,i_ fc,i_ fd] 51))):=r_.alloc n_ _;clear HK;go_enter Tryz.func122,Tryz.ntmps122;go_wp2_with fail
 go_ret;exact⟨al rfl,HA.out⟩
theorem Nc (fa fb fc fd:Int)(k:Int)(c:Nat)(b off m:Nat)(w:World)(c0:w.cell? (a_ b (off+m * 3))=some (.bool false))(hm:m<50)(HK:∀ W:World,b_ w W->c_ 147 #[.slice (some (a_ b off)) (m+1) c] W fun e w2=>e=.returned (i_ k)/\b_ W w2):c_ 122 #[.agg #[i_ 36,i_ fa,i_ fb,i_ fc,i_ fd],.slice (some (a_ b off)) (m+1) c] w (dq true w):=by
 have HA:Hid (b_ w (w.alloc (.cells #[i_ 36,i_ fa,i_ fb,i_ fc,i_ fd] 51))):=r_.alloc n_ _;have cZ:b<w.heap.size:=World.block_lt_of_cell? _ _ c0;have c1:((w.alloc (.cells #[i_ 36,i_ fa,i_ fb,i_ fc,i_ fd] 51))).cell? (a_ b (off+m * 3))=some (.bool false):=(HA.out.cell (p:=(a_ b (off+m * 3))) cZ).trans c0;clear HK;go_enter Tryz.func122,Tryz.ntmps122;go_wp2_with fail
 go_ret;exact⟨al rfl,HA.out⟩
theorem Ng (fa fb fc fd:Int)(k:Int)(c:Nat)(b off m:Nat)(w:World)(c0:w.cell? (a_ b (off+m * 3))=some (.bool true))(hm:m<50)(HK:∀ W:World,b_ w W->c_ 147 #[.slice (some (a_ b off)) (m+1) c] W fun e w2=>e=.returned (i_ k)/\b_ W w2):c_ 122 #[.agg #[i_ 36,i_ fa,i_ fb,i_ fc,i_ fd],.slice (some (a_ b off)) (m+1) c] w (dq false w):=by
 have HA:Hid (b_ w (w.alloc (.cells #[i_ 36,i_ fa,i_ fb,i_ fc,i_ fd] 51))):=r_.alloc n_ _;have cZ:b<w.heap.size:=World.block_lt_of_cell? _ _ c0;have c1:((w.alloc (.cells #[i_ 36,i_ fa,i_ fb,i_ fc,i_ fd] 51))).cell? (a_ b (off+m * 3))=some (.bool true):=(HA.out.cell (p:=(a_ b (off+m * 3))) cZ).trans c0;clear HK;go_enter Tryz.func122,Tryz.ntmps122;go_wp2_with fail
 go_ret;exact⟨al rfl,HA.out⟩
theorem Mn (fa fb fc fd:Int)(k:Int)(c:Nat)(a:o_)(w:World)(HK:∀ W:World,b_ w W->c_ 147 #[.slice a 0 c] W fun e w2=>e=.returned (i_ k)/\b_ W w2):c_ 122 #[.agg #[i_ 32,i_ fa,i_ fb,i_ fc,i_ fd],.slice a 0 c] w (dq false w):=by
 have HA:Hid (b_ w (w.alloc (.cells #[i_ 32,i_ fa,i_ fb,i_ fc,i_ fd] 51))):=r_.alloc n_ _;clear HK;go_enter Tryz.func122,Tryz.ntmps122;go_wp2_with fail
 go_ret;exact⟨al rfl,HA.out⟩
theorem MD (fa fb fc fd:Int)(k:Int)(c:Nat)(b off m:Nat)(w:World)(c0:w.cell? (a_ b (off+m * 3))=some (.bool false))(hm:m<50)(HK:∀ W:World,b_ w W->c_ 147 #[.slice (some (a_ b off)) (m+1) c] W fun e w2=>e=.returned (i_ k)/\b_ W w2):c_ 122 #[.agg #[i_ 32,i_ fa,i_ fb,i_ fc,i_ fd],.slice (some (a_ b off)) (m+1) c] w (dq false w):=by
 have HA:Hid (b_ w (w.alloc (.cells #[i_ 32,i_ fa,i_ fb,i_ fc,i_ fd] 51))):=r_.alloc n_ _;have cZ:b<w.heap.size:=World.block_lt_of_cell? _ _ c0;have c1:((w.alloc (.cells #[i_ 32,i_ fa,i_ fb,i_ fc,i_ fd] 51))).cell? (a_ b (off+m * 3))=some (.bool false):=(HA.out.cell (p:=(a_ b (off+m * 3))) cZ).trans c0;clear HK;go_enter Tryz.func122,Tryz.ntmps122;go_wp2_with fail
 go_ret;exact⟨al rfl,HA.out⟩
theorem Ni (fa fb fc fd:Int)(k:Int)(c:Nat)(b off m:Nat)(w:World)(c0:w.cell? (a_ b (off+m * 3))=some (.bool true))(hm:m<50)(HK:∀ W:World,b_ w W->c_ 147 #[.slice (some (a_ b off)) (m+1) c] W fun e w2=>e=.returned (i_ k)/\b_ W w2):c_ 122 #[.agg #[i_ 32,i_ fa,i_ fb,i_ fc,i_ fd],.slice (some (a_ b off)) (m+1) c] w (dq true w):=by
 have HA:Hid (b_ w (w.alloc (.cells #[i_ 32,i_ fa,i_ fb,i_ fc,i_ fd] 51))):=r_.alloc n_ _;have cZ:b<w.heap.size:=World.block_lt_of_cell? _ _ c0;have c1:((w.alloc (.cells #[i_ 32,i_ fa,i_ fb,i_ fc,i_ fd] 51))).cell? (a_ b (off+m * 3))=some (.bool true):=(HA.out.cell (p:=(a_ b (off+m * 3))) cZ).trans c0;clear HK;go_enter Tryz.func122,Tryz.ntmps122;go_wp2_with fail
 go_ret;exact⟨al rfl,HA.out⟩
theorem Mo (op fa fb fc fd:Int)(k:Int)(c:Nat)(a:o_)(w:World)(HK:∀ W:World,b_ w W->c_ 147 #[.slice a 0 c] W fun e w2=>e=.returned (i_ k)/\b_ W w2)(h1:op≠31)(h2:op≠33)(h3:op≠34)(h4:op≠35)(h5:op≠36)(h6:op≠32):c_ 122 #[.agg #[i_ op,i_ fa,i_ fb,i_ fc,i_ fd],.slice a 0 c] w (dq true w):=by
 have HA:Hid (b_ w (w.alloc (.cells #[i_ op,i_ fa,i_ fb,i_ fc,i_ fd] 51))):=r_.alloc n_ _;clear HK;go_enter Tryz.func122,Tryz.ntmps122;go_wp2_with fail
 go_ret;exact⟨al rfl,HA.out⟩
theorem Np (op fa fb fc fd:Int)(k:Int)(c:Nat)(b off m:Nat)(w:World)(c0:w.cell? (a_ b (off+m * 3))=some (.bool false))(hm:m<50)(HK:∀ W:World,b_ w W->c_ 147 #[.slice (some (a_ b off)) (m+1) c] W fun e w2=>e=.returned (i_ k)/\b_ W w2)(h1:op≠31)(h2:op≠33)(h3:op≠34)(h4:op≠35)(h5:op≠36)(h6:op≠32):c_ 122 #[.agg #[i_ op,i_ fa,i_ fb,i_ fc,i_ fd],.slice (some (a_ b off)) (m+1) c] w (dq true w):=by
 have HA:Hid (b_ w (w.alloc (.cells #[i_ op,i_ fa,i_ fb,i_ fc,i_ fd] 51))):=r_.alloc n_ _;have cZ:b<w.heap.size:=World.block_lt_of_cell? _ _ c0;have c1:((w.alloc (.cells #[i_ op,i_ fa,i_ fb,i_ fc,i_ fd] 51))).cell? (a_ b (off+m * 3))=some (.bool false):=(HA.out.cell (p:=(a_ b (off+m * 3))) cZ).trans c0;clear HK;go_enter Tryz.func122,Tryz.ntmps122;go_wp2_with fail
 go_ret;exact⟨al rfl,HA.out⟩
theorem Mz (op fa fb fc fd:Int)(k:Int)(c:Nat)(b off m:Nat)(w:World)(c0:w.cell? (a_ b (off+m * 3))=some (.bool true))(hm:m<50)(HK:∀ W:World,b_ w W->c_ 147 #[.slice (some (a_ b off)) (m+1) c] W fun e w2=>e=.returned (i_ k)/\b_ W w2)(h1:op≠31)(h2:op≠33)(h3:op≠34)(h4:op≠35)(h5:op≠36)(h6:op≠32):c_ 122 #[.agg #[i_ op,i_ fa,i_ fb,i_ fc,i_ fd],.slice (some (a_ b off)) (m+1) c] w (dq true w):=by
 have HA:Hid (b_ w (w.alloc (.cells #[i_ op,i_ fa,i_ fb,i_ fc,i_ fd] 51))):=r_.alloc n_ _;have cZ:b<w.heap.size:=World.block_lt_of_cell? _ _ c0;have c1:((w.alloc (.cells #[i_ op,i_ fa,i_ fb,i_ fc,i_ fd] 51))).cell? (a_ b (off+m * 3))=some (.bool true):=(HA.out.cell (p:=(a_ b (off+m * 3))) cZ).trans c0;clear HK;go_enter Tryz.func122,Tryz.ntmps122;go_wp2_with fail
 go_ret;exact⟨al rfl,HA.out⟩
theorem sK (op fa fb fc fd:Int)(a:o_)(g:List bg)(c:Nat)(S:Nat->Prop)(w:World)(hs:bx w S a g)(hB:∀ b,S b->b<w.heap.size)(hl:g.length<=50) :
  c_ 122 #[.agg #[i_ op,i_ fa,i_ fb,i_ fc,i_ fd],.slice a g.length c] w (dq (iz ⟨op,fa,fb,fc,fd⟩ g) w):=by
 have HK:∀ W:World,b_ w W->c_ 147 #[.slice a g.length c] W fun e w2=>e=.returned (i_ (eW g))/\b_ W w2:=fun W hW=>mr a g c S W (hs.same (.of_below hW hB)) (fun b h=>l_ (hB b h) hW.size) hl;have cas:op=31\/op=33\/op=34\/op=35\/op=36\/op=32\/(op≠31/\op≠33/\op≠34/\op≠35/\op≠36/\op≠32):=by omega
 by_cases h0:g.length=0
 ·have Iw:decide ((g.length:Int)<50)=true:=decide_eq_true (by omega);have Hq:decide (0<g.length)=false:=decide_eq_false (by omega);rcases cas with rfl | rfl | rfl | rfl | rfl | rfl | ⟨h1,h2,h3,h4,h5,h6⟩
  ·rw[uI,Iw,Bool.true_and];rw[h0]at HK ⊢;exact MA fa fb fc fd _ c a w HK
  ·rw[tO,Iw,Bool.true_and];rw[h0]at HK ⊢;exact MZ fa fb fc fd _ c a w HK
  ·rw[pY,Hq,Bool.false_and,Bool.false_and];rw[h0]at HK ⊢;exact Nn fa fb fc fd _ c a w HK
  ·rw[uF,Hq,Bool.false_and];rw[h0]at HK ⊢;exact Nu fa fb fc fd _ c a w HK
  ·rw[qt,Hq,Bool.false_and];rw[h0]at HK ⊢;exact MQ fa fb fc fd _ c a w HK
  ·rw[pO,Hq,Bool.false_and];rw[h0]at HK ⊢;exact Mn fa fb fc fd _ c a w HK
  ·rw[oQ h1 h2 h3 h4 h5 h6];rw[h0]at HK ⊢;exact Mo op fa fb fc fd _ c a w HK h1 h2 h3 h4 h5 h6
 ·obtain⟨m,hm⟩:∃ m,g.length=m+1:=⟨g.length-1,by omega⟩;obtain⟨b,off,rfl,hb,aE⟩:=hs.2 (by omega);have c0:=(aE m (by omega)).1;have mI:m<50:=by omega
  have Hq:decide (0<g.length)=true:=decide_eq_true (by omega);have Iw:decide ((g.length:Int)<50)=decide (m+1<50):=by rw[hm];exact decide_eq_decide.2 (by omega)
  have hla:g[m]?.getD bg.z=iN g:=by unfold iN;rw[hm];rfl
  rw[hla]at c0;clear hs hB aE;cases ht:(iN g).tr<;>rw[ht]at c0
  ·rcases cas with rfl | rfl | rfl | rfl | rfl | rfl | ⟨h1,h2,h3,h4,h5,h6⟩
   ·rw[uI,Iw];rw[hm]at HK ⊢;by_cases ax:m+1<50
    ·rw[decide_eq_true ax,Bool.true_and];exact IS fa fb fc fd _ c b off m w c0 mI HK ax
    ·rw[decide_eq_false ax,Bool.false_and];exact Jt fa fb fc fd _ c b off m w c0 mI HK ax
   ·rw[tO,Iw];rw[hm]at HK ⊢;by_cases ax:m+1<50
    ·rw[decide_eq_true ax,Bool.true_and];exact IJ fa fb fc fd _ c b off m w c0 mI HK ax
    ·rw[decide_eq_false ax,Bool.false_and];exact JA fa fb fc fd _ c b off m w c0 mI HK ax
   ·rw[pY,Hq,ht];simp only[Bool.true_and,Bool.not_false,Bool.not_true,Bool.false_and];rw[hm]at HK ⊢;exact Mj fa fb fc fd _ c b off m w c0 mI HK
   ·rw[uF,Hq,ht];simp only[Bool.true_and,Bool.not_false,Bool.not_true];rw[hm]at HK ⊢;exact Na fa fb fc fd _ c b off m w c0 mI HK
   ·rw[qt,Hq,ht];simp only[Bool.true_and,Bool.not_false,Bool.not_true];rw[hm]at HK ⊢;exact Nc fa fb fc fd _ c b off m w c0 mI HK
   ·rw[pO,Hq,ht];simp only[Bool.true_and,Bool.not_false,Bool.not_true];rw[hm]at HK ⊢;exact MD fa fb fc fd _ c b off m w c0 mI HK
   ·rw[oQ h1 h2 h3 h4 h5 h6];rw[hm]at HK ⊢;exact Np op fa fb fc fd _ c b off m w c0 mI HK h1 h2 h3 h4 h5 h6
  ·rcases cas with rfl | rfl | rfl | rfl | rfl | rfl | ⟨h1,h2,h3,h4,h5,h6⟩
   ·rw[uI,Iw];rw[hm]at HK ⊢;by_cases ax:m+1<50
    ·rw[decide_eq_true ax,Bool.true_and];exact Kh fa fb fc fd _ c b off m w c0 mI HK ax
    ·rw[decide_eq_false ax,Bool.false_and];exact Ka fa fb fc fd _ c b off m w c0 mI HK ax
   ·rw[tO,Iw];rw[hm]at HK ⊢;by_cases ax:m+1<50
    ·rw[decide_eq_true ax,Bool.true_and];exact JS fa fb fc fd _ c b off m w c0 mI HK ax
    ·rw[decide_eq_false ax,Bool.false_and];exact JE fa fb fc fd _ c b off m w c0 mI HK ax
   ·rw[pY,Hq,ht];simp only[Bool.true_and,Bool.not_false,Bool.not_true,Bool.false_and];rw[hm]at HK ⊢;exact Nf fa fb fc fd _ c b off m w c0 mI HK
   ·rw[uF,Hq,ht];simp only[Bool.true_and,Bool.not_false,Bool.not_true];rw[hm]at HK ⊢;exact Mg fa fb fc fd _ c b off m w c0 mI HK
   ·rw[qt,Hq,ht];simp only[Bool.true_and,Bool.not_false,Bool.not_true];rw[hm]at HK ⊢;exact Ng fa fb fc fd _ c b off m w c0 mI HK
   ·rw[pO,Hq,ht];simp only[Bool.true_and,Bool.not_false,Bool.not_true];rw[hm]at HK ⊢;exact Ni fa fb fc fd _ c b off m w c0 mI HK
   ·rw[oQ h1 h2 h3 h4 h5 h6];rw[hm]at HK ⊢;exact Mz op fa fb fc fd _ c b off m w c0 mI HK h1 h2 h3 h4 h5 h6
end Go.Proofs.YtcjfjflljdojlaaGreatDoor

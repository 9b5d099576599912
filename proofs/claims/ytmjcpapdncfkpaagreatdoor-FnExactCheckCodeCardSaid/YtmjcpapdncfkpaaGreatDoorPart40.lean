import Derived.Test.YtmjcpapdncfkpaaGreatDoorPart39
import Derived.Deep.RegionHeld3
set_option linter.unusedSimpArgs false
set_option linter.unusedVariables false
set_option maxHeartbeats 4000000
namespace Go.Proofs.YtmjcpapdncfkpaaGreatDoor
open Go.RowKit
theorem allow_31 {fa fb fc fd:Int}{g:List GuD}:allowI ⟨31,fa,fb,fc,fd⟩ g=(decide ((g.length:Int)<50)&&decide (highI g≤fb)):=rfl
theorem allow_33 {fa fb fc fd:Int}{g:List GuD}:allowI ⟨33,fa,fb,fc,fd⟩ g=(decide ((g.length:Int)<50)&&decide (highI g≤fa)):=rfl
theorem allow_34 {fa fb fc fd:Int}{g:List GuD}:allowI ⟨34,fa,fb,fc,fd⟩ g=((decide (0<g.length) && !(lastG g).tr)&&decide (highI g≤fa)):=rfl
theorem allow_35 {fa fb fc fd:Int}{g:List GuD}:allowI ⟨35,fa,fb,fc,fd⟩ g=(decide (0<g.length) && !(lastG g).tr):=rfl
theorem allow_36 {fa fb fc fd:Int}{g:List GuD}:allowI ⟨36,fa,fb,fc,fd⟩ g=(decide (0<g.length) && !(lastG g).tr):=rfl
theorem allow_32 {fa fb fc fd:Int}{g:List GuD}:allowI ⟨32,fa,fb,fc,fd⟩ g=(decide (0<g.length)&&(lastG g).tr):=rfl
theorem allow_else {op fa fb fc fd:Int}{g:List GuD}(h1:op≠31)(h2:op≠33)(h3:op≠34)(h4:op≠35)(h5:op≠36)(h6:op≠32):allowI ⟨op,fa,fb,fc,fd⟩ g=true:=by
 unfold allowI
 simp[h1,h2,h3,h4,h5,h6]
def AlPost (r:Bool)(w:World)(e:Ending)(w':World):Prop:=e=.returned (.bool r)∧Below w.heap.size w w'
theorem al_31_n (fa fb fc fd:Int)(k:Int)(c:Nat)(a:Option Addr)(w:World)(HK:∀ W:World,Below w.heap.size w W→Calls Tryz.prog 106 #[.slice a 0 c] W fun e w2=>e=.returned (.int .i64 k)∧Below W.heap.size W w2):Calls Tryz.prog 75 #[.agg #[.int .i64 31,.int .i64 fa,.int .i64 fb,.int .i64 fc,.int .i64 fd],.slice a 0 c] w (AlPost (decide (k≤fb)) w):=by
 have HA:Hid (Below w.heap.size w (w.alloc (.cells #[.int .i64 31,.int .i64 fa,.int .i64 fb,.int .i64 fc,.int .i64 fd] 60))):=(Below.refl _ _).alloc (Nat.le_refl _) _
 have CK:Hid (Calls Tryz.prog 106 #[.slice a 0 c] ((w.alloc (.cells #[.int .i64 31,.int .i64 fa,.int .i64 fb,.int .i64 fc,.int .i64 fd] 60))).drew fun e w2=>e=.returned (.int .i64 k)∧Below ((w.alloc (.cells #[.int .i64 31,.int .i64 fa,.int .i64 fb,.int .i64 fc,.int .i64 fd] 60))).drew.heap.size ((w.alloc (.cells #[.int .i64 31,.int .i64 fa,.int .i64 fb,.int .i64 fc,.int .i64 fd] 60))).drew w2):=HK _ HA.out.drew
 clear HK
 go_enter Tryz.func75,Tryz.ntmps75
 go_upto_region 6 with fail
 go_region_held3 (fun w'=>w'.cell? ⟨w.heap.size,2,none⟩=some (.int .i64 fb)) (simp[go_sem, *])
  (first | (go_at_call 106;refine(unhide CK).mono ?_;rintro e w3 ⟨rfl,hb3⟩;have q0:w3.cell? ⟨w.heap.size,2,none⟩=some (.int .i64 fb):=(hb3.cell (p:=⟨w.heap.size,2,none⟩) (by simp)).trans (by simp[go_sem])))
 all_goals
  have HB3:Hid (Below w.heap.size w w3):=HA.out.drew.trans (hb3.mono (by simp))
  clear hb3
  go_wp2_with fail
  go_ret
  exact⟨ret_bool (by simp),HB3.out⟩
theorem al_31_fy (fa fb fc fd:Int)(k:Int)(c:Nat)(b off m:Nat)(w:World)(c0:w.cell? ⟨b,off+m * 3,none⟩=some (.bool false))(hm:m<50)(HK:∀ W:World,Below w.heap.size w W→Calls Tryz.prog 106 #[.slice (some ⟨b,off,none⟩) (m+1) c] W fun e w2=>e=.returned (.int .i64 k)∧Below W.heap.size W w2)(hlt:m+1<50):Calls Tryz.prog 75 #[.agg #[.int .i64 31,.int .i64 fa,.int .i64 fb,.int .i64 fc,.int .i64 fd],.slice (some ⟨b,off,none⟩) (m+1) c] w (AlPost (decide (k≤fb)) w):=by
 have HA:Hid (Below w.heap.size w (w.alloc (.cells #[.int .i64 31,.int .i64 fa,.int .i64 fb,.int .i64 fc,.int .i64 fd] 60))):=(Below.refl _ _).alloc (Nat.le_refl _) _
 have hbl:b<w.heap.size:=World.block_lt_of_cell? _ _ c0
 have c1:((w.alloc (.cells #[.int .i64 31,.int .i64 fa,.int .i64 fb,.int .i64 fc,.int .i64 fd] 60))).cell? ⟨b,off+m * 3,none⟩=some (.bool false):=(HA.out.cell (p:=⟨b,off+m * 3,none⟩) hbl).trans c0
 have CK:Hid (Calls Tryz.prog 106 #[.slice (some ⟨b,off,none⟩) (m+1) c] ((w.alloc (.cells #[.int .i64 31,.int .i64 fa,.int .i64 fb,.int .i64 fc,.int .i64 fd] 60))).drew fun e w2=>e=.returned (.int .i64 k)∧Below ((w.alloc (.cells #[.int .i64 31,.int .i64 fa,.int .i64 fb,.int .i64 fc,.int .i64 fd] 60))).drew.heap.size ((w.alloc (.cells #[.int .i64 31,.int .i64 fa,.int .i64 fb,.int .i64 fc,.int .i64 fd] 60))).drew w2):=HK _ HA.out.drew
 have hd:decide ((m:Int)+1<50)=true:=decide_eq_true (by omega)
 clear hlt
 clear HK
 go_enter Tryz.func75,Tryz.ntmps75
 go_upto_region 6 with fail
 go_region_held3 (fun w'=>w'.cell? ⟨w.heap.size,2,none⟩=some (.int .i64 fb)) (simp[go_sem, *])
  (first | (go_at_call 106;refine(unhide CK).mono ?_;rintro e w3 ⟨rfl,hb3⟩;have q0:w3.cell? ⟨w.heap.size,2,none⟩=some (.int .i64 fb):=(hb3.cell (p:=⟨w.heap.size,2,none⟩) (by simp)).trans (by simp[go_sem])))
 all_goals
  have HB3:Hid (Below w.heap.size w w3):=HA.out.drew.trans (hb3.mono (by simp))
  clear hb3
  go_wp2_with fail
  go_ret
  exact⟨ret_bool (by simp),HB3.out⟩
theorem al_31_fx (fa fb fc fd:Int)(k:Int)(c:Nat)(b off m:Nat)(w:World)(c0:w.cell? ⟨b,off+m * 3,none⟩=some (.bool false))(hm:m<50)(HK:∀ W:World,Below w.heap.size w W→Calls Tryz.prog 106 #[.slice (some ⟨b,off,none⟩) (m+1) c] W fun e w2=>e=.returned (.int .i64 k)∧Below W.heap.size W w2)(hlt:¬m+1<50):Calls Tryz.prog 75 #[.agg #[.int .i64 31,.int .i64 fa,.int .i64 fb,.int .i64 fc,.int .i64 fd],.slice (some ⟨b,off,none⟩) (m+1) c] w (AlPost false w):=by
 have HA:Hid (Below w.heap.size w (w.alloc (.cells #[.int .i64 31,.int .i64 fa,.int .i64 fb,.int .i64 fc,.int .i64 fd] 60))):=(Below.refl _ _).alloc (Nat.le_refl _) _
 have hbl:b<w.heap.size:=World.block_lt_of_cell? _ _ c0
 have c1:((w.alloc (.cells #[.int .i64 31,.int .i64 fa,.int .i64 fb,.int .i64 fc,.int .i64 fd] 60))).cell? ⟨b,off+m * 3,none⟩=some (.bool false):=(HA.out.cell (p:=⟨b,off+m * 3,none⟩) hbl).trans c0
 have hd:decide ((m:Int)+1<50)=false:=decide_eq_false (by omega)
 clear hlt
 clear HK
 go_enter Tryz.func75,Tryz.ntmps75
 go_wp2_with fail
 go_quiet (fail)
 go_wp2_with fail
 go_ret
 exact⟨ret_bool rfl,HA.out.trans (below_drewN _ _ _)⟩
theorem al_31_ty (fa fb fc fd:Int)(k:Int)(c:Nat)(b off m:Nat)(w:World)(c0:w.cell? ⟨b,off+m * 3,none⟩=some (.bool true))(hm:m<50)(HK:∀ W:World,Below w.heap.size w W→Calls Tryz.prog 106 #[.slice (some ⟨b,off,none⟩) (m+1) c] W fun e w2=>e=.returned (.int .i64 k)∧Below W.heap.size W w2)(hlt:m+1<50):Calls Tryz.prog 75 #[.agg #[.int .i64 31,.int .i64 fa,.int .i64 fb,.int .i64 fc,.int .i64 fd],.slice (some ⟨b,off,none⟩) (m+1) c] w (AlPost (decide (k≤fb)) w):=by
 have HA:Hid (Below w.heap.size w (w.alloc (.cells #[.int .i64 31,.int .i64 fa,.int .i64 fb,.int .i64 fc,.int .i64 fd] 60))):=(Below.refl _ _).alloc (Nat.le_refl _) _
 have hbl:b<w.heap.size:=World.block_lt_of_cell? _ _ c0
 have c1:((w.alloc (.cells #[.int .i64 31,.int .i64 fa,.int .i64 fb,.int .i64 fc,.int .i64 fd] 60))).cell? ⟨b,off+m * 3,none⟩=some (.bool true):=(HA.out.cell (p:=⟨b,off+m * 3,none⟩) hbl).trans c0
 have CK:Hid (Calls Tryz.prog 106 #[.slice (some ⟨b,off,none⟩) (m+1) c] ((w.alloc (.cells #[.int .i64 31,.int .i64 fa,.int .i64 fb,.int .i64 fc,.int .i64 fd] 60))).drew fun e w2=>e=.returned (.int .i64 k)∧Below ((w.alloc (.cells #[.int .i64 31,.int .i64 fa,.int .i64 fb,.int .i64 fc,.int .i64 fd] 60))).drew.heap.size ((w.alloc (.cells #[.int .i64 31,.int .i64 fa,.int .i64 fb,.int .i64 fc,.int .i64 fd] 60))).drew w2):=HK _ HA.out.drew
 have hd:decide ((m:Int)+1<50)=true:=decide_eq_true (by omega)
 clear hlt
 clear HK
 go_enter Tryz.func75,Tryz.ntmps75
 go_upto_region 6 with fail
 go_region_held3 (fun w'=>w'.cell? ⟨w.heap.size,2,none⟩=some (.int .i64 fb)) (simp[go_sem, *])
  (first | (go_at_call 106;refine(unhide CK).mono ?_;rintro e w3 ⟨rfl,hb3⟩;have q0:w3.cell? ⟨w.heap.size,2,none⟩=some (.int .i64 fb):=(hb3.cell (p:=⟨w.heap.size,2,none⟩) (by simp)).trans (by simp[go_sem])))
 all_goals
  have HB3:Hid (Below w.heap.size w w3):=HA.out.drew.trans (hb3.mono (by simp))
  clear hb3
  go_wp2_with fail
  go_ret
  exact⟨ret_bool (by simp),HB3.out⟩
theorem al_31_tx (fa fb fc fd:Int)(k:Int)(c:Nat)(b off m:Nat)(w:World)(c0:w.cell? ⟨b,off+m * 3,none⟩=some (.bool true))(hm:m<50)(HK:∀ W:World,Below w.heap.size w W→Calls Tryz.prog 106 #[.slice (some ⟨b,off,none⟩) (m+1) c] W fun e w2=>e=.returned (.int .i64 k)∧Below W.heap.size W w2)(hlt:¬m+1<50):Calls Tryz.prog 75 #[.agg #[.int .i64 31,.int .i64 fa,.int .i64 fb,.int .i64 fc,.int .i64 fd],.slice (some ⟨b,off,none⟩) (m+1) c] w (AlPost false w):=by
 have HA:Hid (Below w.heap.size w (w.alloc (.cells #[.int .i64 31,.int .i64 fa,.int .i64 fb,.int .i64 fc,.int .i64 fd] 60))):=(Below.refl _ _).alloc (Nat.le_refl _) _
 have hbl:b<w.heap.size:=World.block_lt_of_cell? _ _ c0
 have c1:((w.alloc (.cells #[.int .i64 31,.int .i64 fa,.int .i64 fb,.int .i64 fc,.int .i64 fd] 60))).cell? ⟨b,off+m * 3,none⟩=some (.bool true):=(HA.out.cell (p:=⟨b,off+m * 3,none⟩) hbl).trans c0
 have hd:decide ((m:Int)+1<50)=false:=decide_eq_false (by omega)
 clear hlt
 clear HK
 go_enter Tryz.func75,Tryz.ntmps75
 go_wp2_with fail
 go_quiet (fail)
 go_wp2_with fail
 go_ret
 exact⟨ret_bool rfl,HA.out.trans (below_drewN _ _ _)⟩
theorem al_33_n (fa fb fc fd:Int)(k:Int)(c:Nat)(a:Option Addr)(w:World)(HK:∀ W:World,Below w.heap.size w W→Calls Tryz.prog 106 #[.slice a 0 c] W fun e w2=>e=.returned (.int .i64 k)∧Below W.heap.size W w2):Calls Tryz.prog 75 #[.agg #[.int .i64 33,.int .i64 fa,.int .i64 fb,.int .i64 fc,.int .i64 fd],.slice a 0 c] w (AlPost (decide (k≤fa)) w):=by
 have HA:Hid (Below w.heap.size w (w.alloc (.cells #[.int .i64 33,.int .i64 fa,.int .i64 fb,.int .i64 fc,.int .i64 fd] 60))):=(Below.refl _ _).alloc (Nat.le_refl _) _
 have CK:Hid (Calls Tryz.prog 106 #[.slice a 0 c] ((w.alloc (.cells #[.int .i64 33,.int .i64 fa,.int .i64 fb,.int .i64 fc,.int .i64 fd] 60))).drew fun e w2=>e=.returned (.int .i64 k)∧Below ((w.alloc (.cells #[.int .i64 33,.int .i64 fa,.int .i64 fb,.int .i64 fc,.int .i64 fd] 60))).drew.heap.size ((w.alloc (.cells #[.int .i64 33,.int .i64 fa,.int .i64 fb,.int .i64 fc,.int .i64 fd] 60))).drew w2):=HK _ HA.out.drew
 clear HK
 go_enter Tryz.func75,Tryz.ntmps75
 go_upto_region 8 with fail
 go_region_held3 (fun w'=>w'.cell? ⟨w.heap.size,1,none⟩=some (.int .i64 fa)) (simp[go_sem, *])
  (first | (go_at_call 106;refine(unhide CK).mono ?_;rintro e w3 ⟨rfl,hb3⟩;have q0:w3.cell? ⟨w.heap.size,1,none⟩=some (.int .i64 fa):=(hb3.cell (p:=⟨w.heap.size,1,none⟩) (by simp)).trans (by simp[go_sem])))
 all_goals
  have HB3:Hid (Below w.heap.size w w3):=HA.out.drew.trans (hb3.mono (by simp))
  clear hb3
  go_wp2_with fail
  go_ret
  exact⟨ret_bool (by simp),HB3.out⟩
theorem al_33_fy (fa fb fc fd:Int)(k:Int)(c:Nat)(b off m:Nat)(w:World)(c0:w.cell? ⟨b,off+m * 3,none⟩=some (.bool false))(hm:m<50)(HK:∀ W:World,Below w.heap.size w W→Calls Tryz.prog 106 #[.slice (some ⟨b,off,none⟩) (m+1) c] W fun e w2=>e=.returned (.int .i64 k)∧Below W.heap.size W w2)(hlt:m+1<50):Calls Tryz.prog 75 #[.agg #[.int .i64 33,.int .i64 fa,.int .i64 fb,.int .i64 fc,.int .i64 fd],.slice (some ⟨b,off,none⟩) (m+1) c] w (AlPost (decide (k≤fa)) w):=by
 have HA:Hid (Below w.heap.size w (w.alloc (.cells #[.int .i64 33,.int .i64 fa,.int .i64 fb,.int .i64 fc,.int .i64 fd] 60))):=(Below.refl _ _).alloc (Nat.le_refl _) _
 have hbl:b<w.heap.size:=World.block_lt_of_cell? _ _ c0
 have c1:((w.alloc (.cells #[.int .i64 33,.int .i64 fa,.int .i64 fb,.int .i64 fc,.int .i64 fd] 60))).cell? ⟨b,off+m * 3,none⟩=some (.bool false):=(HA.out.cell (p:=⟨b,off+m * 3,none⟩) hbl).trans c0
 have CK:Hid (Calls Tryz.prog 106 #[.slice (some ⟨b,off,none⟩) (m+1) c] ((w.alloc (.cells #[.int .i64 33,.int .i64 fa,.int .i64 fb,.int .i64 fc,.int .i64 fd] 60))).drew fun e w2=>e=.returned (.int .i64 k)∧Below ((w.alloc (.cells #[.int .i64 33,.int .i64 fa,.int .i64 fb,.int .i64 fc,.int .i64 fd] 60))).drew.heap.size ((w.alloc (.cells #[.int .i64 33,.int .i64 fa,.int .i64 fb,.int .i64 fc,.int .i64 fd] 60))).drew w2):=HK _ HA.out.drew
 have hd:decide ((m:Int)+1<50)=true:=decide_eq_true (by omega)
 clear hlt
 clear HK
 go_enter Tryz.func75,Tryz.ntmps75
 go_upto_region 8 with fail
 go_region_held3 (fun w'=>w'.cell? ⟨w.heap.size,1,none⟩=some (.int .i64 fa)) (simp[go_sem, *])
  (first | (go_at_call 106;refine(unhide CK).mono ?_;rintro e w3 ⟨rfl,hb3⟩;have q0:w3.cell? ⟨w.heap.size,1,none⟩=some (.int .i64 fa):=(hb3.cell (p:=⟨w.heap.size,1,none⟩) (by simp)).trans (by simp[go_sem])))
 all_goals
  have HB3:Hid (Below w.heap.size w w3):=HA.out.drew.trans (hb3.mono (by simp))
  clear hb3
  go_wp2_with fail
  go_ret
  exact⟨ret_bool (by simp),HB3.out⟩
theorem al_33_fx (fa fb fc fd:Int)(k:Int)(c:Nat)(b off m:Nat)(w:World)(c0:w.cell? ⟨b,off+m * 3,none⟩=some (.bool false))(hm:m<50)(HK:∀ W:World,Below w.heap.size w W→Calls Tryz.prog 106 #[.slice (some ⟨b,off,none⟩) (m+1) c] W fun e w2=>e=.returned (.int .i64 k)∧Below W.heap.size W w2)(hlt:¬m+1<50):Calls Tryz.prog 75 #[.agg #[.int .i64 33,.int .i64 fa,.int .i64 fb,.int .i64 fc,.int .i64 fd],.slice (some ⟨b,off,none⟩) (m+1) c] w (AlPost false w):=by
 have HA:Hid (Below w.heap.size w (w.alloc (.cells #[.int .i64 33,.int .i64 fa,.int .i64 fb,.int .i64 fc,.int .i64 fd] 60))):=(Below.refl _ _).alloc (Nat.le_refl _) _
 have hbl:b<w.heap.size:=World.block_lt_of_cell? _ _ c0
 have c1:((w.alloc (.cells #[.int .i64 33,.int .i64 fa,.int .i64 fb,.int .i64 fc,.int .i64 fd] 60))).cell? ⟨b,off+m * 3,none⟩=some (.bool false):=(HA.out.cell (p:=⟨b,off+m * 3,none⟩) hbl).trans c0
 have hd:decide ((m:Int)+1<50)=false:=decide_eq_false (by omega)
 clear hlt
 clear HK
 go_enter Tryz.func75,Tryz.ntmps75
 go_wp2_with fail
 go_quiet (fail)
 go_wp2_with fail
 go_ret
 exact⟨ret_bool rfl,HA.out.trans (below_drewN _ _ _)⟩
theorem al_33_ty (fa fb fc fd:Int)(k:Int)(c:Nat)(b off m:Nat)(w:World)(c0:w.cell? ⟨b,off+m * 3,none⟩=some (.bool true))(hm:m<50)(HK:∀ W:World,Below w.heap.size w W→Calls Tryz.prog 106 #[.slice (some ⟨b,off,none⟩) (m+1) c] W fun e w2=>e=.returned (.int .i64 k)∧Below W.heap.size W w2)(hlt:m+1<50):Calls Tryz.prog 75 #[.agg #[.int .i64 33,.int .i64 fa,.int .i64 fb,.int .i64 fc,.int .i64 fd],.slice (some ⟨b,off,none⟩) (m+1) c] w (AlPost (decide (k≤fa)) w):=by
 have HA:Hid (Below w.heap.size w (w.alloc (.cells #[.int .i64 33,.int .i64 fa,.int .i64 fb,.int .i64 fc,.int .i64 fd] 60))):=(Below.refl _ _).alloc (Nat.le_refl _) _
 have hbl:b<w.heap.size:=World.block_lt_of_cell? _ _ c0
 have c1:((w.alloc (.cells #[.int .i64 33,.int .i64 fa,.int .i64 fb,.int .i64 fc,.int .i64 fd] 60))).cell? ⟨b,off+m * 3,none⟩=some (.bool true):=(HA.out.cell (p:=⟨b,off+m * 3,none⟩) hbl).trans c0
 have CK:Hid (Calls Tryz.prog 106 #[.slice (some ⟨b,off,none⟩) (m+1) c] ((w.alloc (.cells #[.int .i64 33,.int .i64 fa,.int .i64 fb,.int .i64 fc,.int .i64 fd] 60))).drew fun e w2=>e=.returned (.int .i64 k)∧Below ((w.alloc (.cells #[.int .i64 33,.int .i64 fa,.int .i64 fb,.int .i64 fc,.int .i64 fd] 60))).drew.heap.size ((w.alloc (.cells #[.int .i64 33,.int .i64 fa,.int .i64 fb,.int .i64 fc,.int .i64 fd] 60))).drew w2):=HK _ HA.out.drew
 have hd:decide ((m:Int)+1<50)=true:=decide_eq_true (by omega)
 clear hlt
 clear HK
 go_enter Tryz.func75,Tryz.ntmps75
 go_upto_region 8 with fail
 go_region_held3 (fun w'=>w'.cell? ⟨w.heap.size,1,none⟩=some (.int .i64 fa)) (simp[go_sem, *])
  (first | (go_at_call 106;refine(unhide CK).mono ?_;rintro e w3 ⟨rfl,hb3⟩;have q0:w3.cell? ⟨w.heap.size,1,none⟩=some (.int .i64 fa):=(hb3.cell (p:=⟨w.heap.size,1,none⟩) (by simp)).trans (by simp[go_sem])))
 all_goals
  have HB3:Hid (Below w.heap.size w w3):=HA.out.drew.trans (hb3.mono (by simp))
  clear hb3
  go_wp2_with fail
  go_ret
  exact⟨ret_bool (by simp),HB3.out⟩
theorem al_33_tx (fa fb fc fd:Int)(k:Int)(c:Nat)(b off m:Nat)(w:World)(c0:w.cell? ⟨b,off+m * 3,none⟩=some (.bool true))(hm:m<50)(HK:∀ W:World,Below w.heap.size w W→Calls Tryz.prog 106 #[.slice (some ⟨b,off,none⟩) (m+1) c] W fun e w2=>e=.returned (.int .i64 k)∧Below W.heap.size W w2)(hlt:¬m+1<50):Calls Tryz.prog 75 #[.agg #[.int .i64 33,.int .i64 fa,.int .i64 fb,.int .i64 fc,.int .i64 fd],.slice (some ⟨b,off,none⟩) (m+1) c] w (AlPost false w):=by
 have HA:Hid (Below w.heap.size w (w.alloc (.cells #[.int .i64 33,.int .i64 fa,.int .i64 fb,.int .i64 fc,.int .i64 fd] 60))):=(Below.refl _ _).alloc (Nat.le_refl _) _
 have hbl:b<w.heap.size:=World.block_lt_of_cell? _ _ c0
 have c1:((w.alloc (.cells #[.int .i64 33,.int .i64 fa,.int .i64 fb,.int .i64 fc,.int .i64 fd] 60))).cell? ⟨b,off+m * 3,none⟩=some (.bool true):=(HA.out.cell (p:=⟨b,off+m * 3,none⟩) hbl).trans c0
 have hd:decide ((m:Int)+1<50)=false:=decide_eq_false (by omega)
 clear hlt
 clear HK
 go_enter Tryz.func75,Tryz.ntmps75
 go_wp2_with fail
 go_quiet (fail)
 go_wp2_with fail
 go_ret
 exact⟨ret_bool rfl,HA.out.trans (below_drewN _ _ _)⟩
theorem al_34_n (fa fb fc fd:Int)(k:Int)(c:Nat)(a:Option Addr)(w:World)(HK:∀ W:World,Below w.heap.size w W→Calls Tryz.prog 106 #[.slice a 0 c] W fun e w2=>e=.returned (.int .i64 k)∧Below W.heap.size W w2):Calls Tryz.prog 75 #[.agg #[.int .i64 34,.int .i64 fa,.int .i64 fb,.int .i64 fc,.int .i64 fd],.slice a 0 c] w (AlPost false w):=by
 have HA:Hid (Below w.heap.size w (w.alloc (.cells #[.int .i64 34,.int .i64 fa,.int .i64 fb,.int .i64 fc,.int .i64 fd] 60))):=(Below.refl _ _).alloc (Nat.le_refl _) _
 clear HK
 go_enter Tryz.func75,Tryz.ntmps75
 go_wp2_with fail
 go_quiet (fail)
 go_wp2_with fail
 go_ret
 exact⟨ret_bool rfl,HA.out.trans (below_drewN _ _ _)⟩
theorem al_34_f (fa fb fc fd:Int)(k:Int)(c:Nat)(b off m:Nat)(w:World)(c0:w.cell? ⟨b,off+m * 3,none⟩=some (.bool false))(hm:m<50)(HK:∀ W:World,Below w.heap.size w W→Calls Tryz.prog 106 #[.slice (some ⟨b,off,none⟩) (m+1) c] W fun e w2=>e=.returned (.int .i64 k)∧Below W.heap.size W w2):Calls Tryz.prog 75 #[.agg #[.int .i64 34,.int .i64 fa,.int .i64 fb,.int .i64 fc,.int .i64 fd],.slice (some ⟨b,off,none⟩) (m+1) c] w (AlPost (decide (k≤fa)) w):=by
 have HA:Hid (Below w.heap.size w (w.alloc (.cells #[.int .i64 34,.int .i64 fa,.int .i64 fb,.int .i64 fc,.int .i64 fd] 60))):=(Below.refl _ _).alloc (Nat.le_refl _) _
 have hbl:b<w.heap.size:=World.block_lt_of_cell? _ _ c0
 have c1:((w.alloc (.cells #[.int .i64 34,.int .i64 fa,.int .i64 fb,.int .i64 fc,.int .i64 fd] 60))).cell? ⟨b,off+m * 3,none⟩=some (.bool false):=(HA.out.cell (p:=⟨b,off+m * 3,none⟩) hbl).trans c0
 have CK:Hid (Calls Tryz.prog 106 #[.slice (some ⟨b,off,none⟩) (m+1) c] ((w.alloc (.cells #[.int .i64 34,.int .i64 fa,.int .i64 fb,.int .i64 fc,.int .i64 fd] 60))).drew fun e w2=>e=.returned (.int .i64 k)∧Below ((w.alloc (.cells #[.int .i64 34,.int .i64 fa,.int .i64 fb,.int .i64 fc,.int .i64 fd] 60))).drew.heap.size ((w.alloc (.cells #[.int .i64 34,.int .i64 fa,.int .i64 fb,.int .i64 fc,.int .i64 fd] 60))).drew w2):=HK _ HA.out.drew
 clear HK
 go_enter Tryz.func75,Tryz.ntmps75
 go_upto_region 10 with fail
 go_region_held3 (fun w'=>w'.cell? ⟨w.heap.size,1,none⟩=some (.int .i64 fa)) (simp[go_sem, *])
  (first | (go_at_call 106;refine(unhide CK).mono ?_;rintro e w3 ⟨rfl,hb3⟩;have q0:w3.cell? ⟨w.heap.size,1,none⟩=some (.int .i64 fa):=(hb3.cell (p:=⟨w.heap.size,1,none⟩) (by simp)).trans (by simp[go_sem])))
 all_goals
  have HB3:Hid (Below w.heap.size w w3):=HA.out.drew.trans (hb3.mono (by simp))
  clear hb3
  go_wp2_with fail
  go_ret
  exact⟨ret_bool (by simp),HB3.out⟩
theorem al_34_t (fa fb fc fd:Int)(k:Int)(c:Nat)(b off m:Nat)(w:World)(c0:w.cell? ⟨b,off+m * 3,none⟩=some (.bool true))(hm:m<50)(HK:∀ W:World,Below w.heap.size w W→Calls Tryz.prog 106 #[.slice (some ⟨b,off,none⟩) (m+1) c] W fun e w2=>e=.returned (.int .i64 k)∧Below W.heap.size W w2):Calls Tryz.prog 75 #[.agg #[.int .i64 34,.int .i64 fa,.int .i64 fb,.int .i64 fc,.int .i64 fd],.slice (some ⟨b,off,none⟩) (m+1) c] w (AlPost false w):=by
 have HA:Hid (Below w.heap.size w (w.alloc (.cells #[.int .i64 34,.int .i64 fa,.int .i64 fb,.int .i64 fc,.int .i64 fd] 60))):=(Below.refl _ _).alloc (Nat.le_refl _) _
 have hbl:b<w.heap.size:=World.block_lt_of_cell? _ _ c0
 have c1:((w.alloc (.cells #[.int .i64 34,.int .i64 fa,.int .i64 fb,.int .i64 fc,.int .i64 fd] 60))).cell? ⟨b,off+m * 3,none⟩=some (.bool true):=(HA.out.cell (p:=⟨b,off+m * 3,none⟩) hbl).trans c0
 clear HK
 go_enter Tryz.func75,Tryz.ntmps75
 go_wp2_with fail
 go_quiet (fail)
 go_wp2_with fail
 go_ret
 exact⟨ret_bool rfl,HA.out.trans (below_drewN _ _ _)⟩
theorem al_35_n (fa fb fc fd:Int)(k:Int)(c:Nat)(a:Option Addr)(w:World)(HK:∀ W:World,Below w.heap.size w W→Calls Tryz.prog 106 #[.slice a 0 c] W fun e w2=>e=.returned (.int .i64 k)∧Below W.heap.size W w2):Calls Tryz.prog 75 #[.agg #[.int .i64 35,.int .i64 fa,.int .i64 fb,.int .i64 fc,.int .i64 fd],.slice a 0 c] w (AlPost false w):=by
 have HA:Hid (Below w.heap.size w (w.alloc (.cells #[.int .i64 35,.int .i64 fa,.int .i64 fb,.int .i64 fc,.int .i64 fd] 60))):=(Below.refl _ _).alloc (Nat.le_refl _) _
 clear HK
 go_enter Tryz.func75,Tryz.ntmps75
 go_wp2_with fail
 go_ret
 exact⟨ret_bool rfl,HA.out⟩
theorem al_35_f (fa fb fc fd:Int)(k:Int)(c:Nat)(b off m:Nat)(w:World)(c0:w.cell? ⟨b,off+m * 3,none⟩=some (.bool false))(hm:m<50)(HK:∀ W:World,Below w.heap.size w W→Calls Tryz.prog 106 #[.slice (some ⟨b,off,none⟩) (m+1) c] W fun e w2=>e=.returned (.int .i64 k)∧Below W.heap.size W w2):Calls Tryz.prog 75 #[.agg #[.int .i64 35,.int .i64 fa,.int .i64 fb,.int .i64 fc,.int .i64 fd],.slice (some ⟨b,off,none⟩) (m+1) c] w (AlPost true w):=by
 have HA:Hid (Below w.heap.size w (w.alloc (.cells #[.int .i64 35,.int .i64 fa,.int .i64 fb,.int .i64 fc,.int .i64 fd] 60))):=(Below.refl _ _).alloc (Nat.le_refl _) _
 have hbl:b<w.heap.size:=World.block_lt_of_cell? _ _ c0
 have c1:((w.alloc (.cells #[.int .i64 35,.int .i64 fa,.int .i64 fb,.int .i64 fc,.int .i64 fd] 60))).cell? ⟨b,off+m * 3,none⟩=some (.bool false):=(HA.out.cell (p:=⟨b,off+m * 3,none⟩) hbl).trans c0
 clear HK
 go_enter Tryz.func75,Tryz.ntmps75
 go_wp2_with fail
 go_ret
 exact⟨ret_bool rfl,HA.out⟩
theorem al_35_t (fa fb fc fd:Int)(k:Int)(c:Nat)(b off m:Nat)(w:World)(c0:w.cell? ⟨b,off+m * 3,none⟩=some (.bool true))(hm:m<50)(HK:∀ W:World,Below w.heap.size w W→Calls Tryz.prog 106 #[.slice (some ⟨b,off,none⟩) (m+1) c] W fun e w2=>e=.returned (.int .i64 k)∧Below W.heap.size W w2):Calls Tryz.prog 75 #[.agg #[.int .i64 35,.int .i64 fa,.int .i64 fb,.int .i64 fc,.int .i64 fd],.slice (some ⟨b,off,none⟩) (m+1) c] w (AlPost false w):=by
 have HA:Hid (Below w.heap.size w (w.alloc (.cells #[.int .i64 35,.int .i64 fa,.int .i64 fb,.int .i64 fc,.int .i64 fd] 60))):=(Below.refl _ _).alloc (Nat.le_refl _) _
 have hbl:b<w.heap.size:=World.block_lt_of_cell? _ _ c0
 have c1:((w.alloc (.cells #[.int .i64 35,.int .i64 fa,.int .i64 fb,.int .i64 fc,.int .i64 fd] 60))).cell? ⟨b,off+m * 3,none⟩=some (.bool true):=(HA.out.cell (p:=⟨b,off+m * 3,none⟩) hbl).trans c0
 clear HK
 go_enter Tryz.func75,Tryz.ntmps75
 go_wp2_with fail
 go_ret
 exact⟨ret_bool rfl,HA.out⟩
theorem al_36_n (fa fb fc fd:Int)(k:Int)(c:Nat)(a:Option Addr)(w:World)(HK:∀ W:World,Below w.heap.size w W→Calls Tryz.prog 106 #[.slice a 0 c] W fun e w2=>e=.returned (.int .i64 k)∧Below W.heap.size W w2):Calls Tryz.prog 75 #[.agg #[.int .i64 36,.int .i64 fa,.int .i64 fb,.int .i64 fc,.int .i64 fd],.slice a 0 c] w (AlPost false w):=by
 have HA:Hid (Below w.heap.size w (w.alloc (.cells #[.int .i64 36,.int .i64 fa,.int .i64 fb,.int .i64 fc,.int .i64 fd] 60))):=(Below.refl _ _).alloc (Nat.le_refl _) _
 clear HK
 go_enter Tryz.func75,Tryz.ntmps75
 go_wp2_with fail
 go_ret
 exact⟨ret_bool rfl,HA.out⟩
theorem al_36_f (fa fb fc fd:Int)(k:Int)(c:Nat)(b off m:Nat)(w:World)(c0:w.cell? ⟨b,off+m * 3,none⟩=some (.bool false))(hm:m<50)(HK:∀ W:World,Below w.heap.size w W→Calls Tryz.prog 106 #[.slice (some ⟨b,off,none⟩) (m+1) c] W fun e w2=>e=.returned (.int .i64 k)∧Below W.heap.size W w2):Calls Tryz.prog 75 #[.agg #[.int .i64 36,.int .i64 fa,.int .i64 fb,.int .i64 fc,.int .i64 fd],.slice (some ⟨b,off,none⟩) (m+1) c] w (AlPost true w):=by
 have HA:Hid (Below w.heap.size w (w.alloc (.cells #[.int .i64 36,.int .i64 fa,.int .i64 fb,.int .i64 fc,.int .i64 fd] 60))):=(Below.refl _ _).alloc (Nat.le_refl _) _
 have hbl:b<w.heap.size:=World.block_lt_of_cell? _ _ c0
 have c1:((w.alloc (.cells #[.int .i64 36,.int .i64 fa,.int .i64 fb,.int .i64 fc,.int .i64 fd] 60))).cell? ⟨b,off+m * 3,none⟩=some (.bool false):=(HA.out.cell (p:=⟨b,off+m * 3,none⟩) hbl).trans c0
 clear HK
 go_enter Tryz.func75,Tryz.ntmps75
 go_wp2_with fail
 go_ret
 exact⟨ret_bool rfl,HA.out⟩
theorem al_36_t (fa fb fc fd:Int)(k:Int)(c:Nat)(b off m:Nat)(w:World)(c0:w.cell? ⟨b,off+m * 3,none⟩=some (.bool true))(hm:m<50)(HK:∀ W:World,Below w.heap.size w W→Calls Tryz.prog 106 #[.slice (some ⟨b,off,none⟩) (m+1) c] W fun e w2=>e=.returned (.int .i64 k)∧Below W.heap.size W w2):Calls Tryz.prog 75 #[.agg #[.int .i64 36,.int .i64 fa,.int .i64 fb,.int .i64 fc,.int .i64 fd],.slice (some ⟨b,off,none⟩) (m+1) c] w (AlPost false w):=by
 have HA:Hid (Below w.heap.size w (w.alloc (.cells #[.int .i64 36,.int .i64 fa,.int .i64 fb,.int .i64 fc,.int .i64 fd] 60))):=(Below.refl _ _).alloc (Nat.le_refl _) _
 have hbl:b<w.heap.size:=World.block_lt_of_cell? _ _ c0
 have c1:((w.alloc (.cells #[.int .i64 36,.int .i64 fa,.int .i64 fb,.int .i64 fc,.int .i64 fd] 60))).cell? ⟨b,off+m * 3,none⟩=some (.bool true):=(HA.out.cell (p:=⟨b,off+m * 3,none⟩) hbl).trans c0
 clear HK
 go_enter Tryz.func75,Tryz.ntmps75
 go_wp2_with fail
 go_ret
 exact⟨ret_bool rfl,HA.out⟩
theorem al_32_n (fa fb fc fd:Int)(k:Int)(c:Nat)(a:Option Addr)(w:World)(HK:∀ W:World,Below w.heap.size w W→Calls Tryz.prog 106 #[.slice a 0 c] W fun e w2=>e=.returned (.int .i64 k)∧Below W.heap.size W w2):Calls Tryz.prog 75 #[.agg #[.int .i64 32,.int .i64 fa,.int .i64 fb,.int .i64 fc,.int .i64 fd],.slice a 0 c] w (AlPost false w):=by
 have HA:Hid (Below w.heap.size w (w.alloc (.cells #[.int .i64 32,.int .i64 fa,.int .i64 fb,.int .i64 fc,.int .i64 fd] 60))):=(Below.refl _ _).alloc (Nat.le_refl _) _
 clear HK
 go_enter Tryz.func75,Tryz.ntmps75
 go_wp2_with fail
 go_ret
 exact⟨ret_bool rfl,HA.out⟩
theorem al_32_f (fa fb fc fd:Int)(k:Int)(c:Nat)(b off m:Nat)(w:World)(c0:w.cell? ⟨b,off+m * 3,none⟩=some (.bool false))(hm:m<50)(HK:∀ W:World,Below w.heap.size w W→Calls Tryz.prog 106 #[.slice (some ⟨b,off,none⟩) (m+1) c] W fun e w2=>e=.returned (.int .i64 k)∧Below W.heap.size W w2):Calls Tryz.prog 75 #[.agg #[.int .i64 32,.int .i64 fa,.int .i64 fb,.int .i64 fc,.int .i64 fd],.slice (some ⟨b,off,none⟩) (m+1) c] w (AlPost false w):=by
 have HA:Hid (Below w.heap.size w (w.alloc (.cells #[.int .i64 32,.int .i64 fa,.int .i64 fb,.int .i64 fc,.int .i64 fd] 60))):=(Below.refl _ _).alloc (Nat.le_refl _) _
 have hbl:b<w.heap.size:=World.block_lt_of_cell? _ _ c0
 have c1:((w.alloc (.cells #[.int .i64 32,.int .i64 fa,.int .i64 fb,.int .i64 fc,.int .i64 fd] 60))).cell? ⟨b,off+m * 3,none⟩=some (.bool false):=(HA.out.cell (p:=⟨b,off+m * 3,none⟩) hbl).trans c0
 clear HK
 go_enter Tryz.func75,Tryz.ntmps75
 go_wp2_with fail
 go_ret
 exact⟨ret_bool rfl,HA.out⟩
theorem al_32_t (fa fb fc fd:Int)(k:Int)(c:Nat)(b off m:Nat)(w:World)(c0:w.cell? ⟨b,off+m * 3,none⟩=some (.bool true))(hm:m<50)(HK:∀ W:World,Below w.heap.size w W→Calls Tryz.prog 106 #[.slice (some ⟨b,off,none⟩) (m+1) c] W fun e w2=>e=.returned (.int .i64 k)∧Below W.heap.size W w2):Calls Tryz.prog 75 #[.agg #[.int .i64 32,.int .i64 fa,.int .i64 fb,.int .i64 fc,.int .i64 fd],.slice (some ⟨b,off,none⟩) (m+1) c] w (AlPost true w):=by
 have HA:Hid (Below w.heap.size w (w.alloc (.cells #[.int .i64 32,.int .i64 fa,.int .i64 fb,.int .i64 fc,.int .i64 fd] 60))):=(Below.refl _ _).alloc (Nat.le_refl _) _
 have hbl:b<w.heap.size:=World.block_lt_of_cell? _ _ c0
 have c1:((w.alloc (.cells #[.int .i64 32,.int .i64 fa,.int .i64 fb,.int .i64 fc,.int .i64 fd] 60))).cell? ⟨b,off+m * 3,none⟩=some (.bool true):=(HA.out.cell (p:=⟨b,off+m * 3,none⟩) hbl).trans c0
 clear HK
 go_enter Tryz.func75,Tryz.ntmps75
 go_wp2_with fail
 go_ret
 exact⟨ret_bool rfl,HA.out⟩
theorem al_op_n (op fa fb fc fd:Int)(k:Int)(c:Nat)(a:Option Addr)(w:World)(HK:∀ W:World,Below w.heap.size w W→Calls Tryz.prog 106 #[.slice a 0 c] W fun e w2=>e=.returned (.int .i64 k)∧Below W.heap.size W w2)(h1:op≠31)(h2:op≠33)(h3:op≠34)(h4:op≠35)(h5:op≠36)(h6:op≠32):Calls Tryz.prog 75 #[.agg #[.int .i64 op,.int .i64 fa,.int .i64 fb,.int .i64 fc,.int .i64 fd],.slice a 0 c] w (AlPost true w):=by
 have HA:Hid (Below w.heap.size w (w.alloc (.cells #[.int .i64 op,.int .i64 fa,.int .i64 fb,.int .i64 fc,.int .i64 fd] 60))):=(Below.refl _ _).alloc (Nat.le_refl _) _
 clear HK
 go_enter Tryz.func75,Tryz.ntmps75
 go_wp2_with fail
 go_ret
 exact⟨ret_bool rfl,HA.out⟩
theorem al_op_f (op fa fb fc fd:Int)(k:Int)(c:Nat)(b off m:Nat)(w:World)(c0:w.cell? ⟨b,off+m * 3,none⟩=some (.bool false))(hm:m<50)(HK:∀ W:World,Below w.heap.size w W→Calls Tryz.prog 106 #[.slice (some ⟨b,off,none⟩) (m+1) c] W fun e w2=>e=.returned (.int .i64 k)∧Below W.heap.size W w2)(h1:op≠31)(h2:op≠33)(h3:op≠34)(h4:op≠35)(h5:op≠36)(h6:op≠32):Calls Tryz.prog 75 #[.agg #[.int .i64 op,.int .i64 fa,.int .i64 fb,.int .i64 fc,.int .i64 fd],.slice (some ⟨b,off,none⟩) (m+1) c] w (AlPost true w):=by
 have HA:Hid (Below w.heap.size w (w.alloc (.cells #[.int .i64 op,.int .i64 fa,.int .i64 fb,.int .i64 fc,.int .i64 fd] 60))):=(Below.refl _ _).alloc (Nat.le_refl _) _
 have hbl:b<w.heap.size:=World.block_lt_of_cell? _ _ c0
 have c1:((w.alloc (.cells #[.int .i64 op,.int .i64 fa,.int .i64 fb,.int .i64 fc,.int .i64 fd] 60))).cell? ⟨b,off+m * 3,none⟩=some (.bool false):=(HA.out.cell (p:=⟨b,off+m * 3,none⟩) hbl).trans c0
 clear HK
 go_enter Tryz.func75,Tryz.ntmps75
 go_wp2_with fail
 go_ret
 exact⟨ret_bool rfl,HA.out⟩
theorem al_op_t (op fa fb fc fd:Int)(k:Int)(c:Nat)(b off m:Nat)(w:World)(c0:w.cell? ⟨b,off+m * 3,none⟩=some (.bool true))(hm:m<50)(HK:∀ W:World,Below w.heap.size w W→Calls Tryz.prog 106 #[.slice (some ⟨b,off,none⟩) (m+1) c] W fun e w2=>e=.returned (.int .i64 k)∧Below W.heap.size W w2)(h1:op≠31)(h2:op≠33)(h3:op≠34)(h4:op≠35)(h5:op≠36)(h6:op≠32):Calls Tryz.prog 75 #[.agg #[.int .i64 op,.int .i64 fa,.int .i64 fb,.int .i64 fc,.int .i64 fd],.slice (some ⟨b,off,none⟩) (m+1) c] w (AlPost true w):=by
 have HA:Hid (Below w.heap.size w (w.alloc (.cells #[.int .i64 op,.int .i64 fa,.int .i64 fb,.int .i64 fc,.int .i64 fd] 60))):=(Below.refl _ _).alloc (Nat.le_refl _) _
 have hbl:b<w.heap.size:=World.block_lt_of_cell? _ _ c0
 have c1:((w.alloc (.cells #[.int .i64 op,.int .i64 fa,.int .i64 fb,.int .i64 fc,.int .i64 fd] 60))).cell? ⟨b,off+m * 3,none⟩=some (.bool true):=(HA.out.cell (p:=⟨b,off+m * 3,none⟩) hbl).trans c0
 clear HK
 go_enter Tryz.func75,Tryz.ntmps75
 go_wp2_with fail
 go_ret
 exact⟨ret_bool rfl,HA.out⟩
theorem guardsAllow_any (op fa fb fc fd:Int)(a:Option Addr)(g:List GuD)(c:Nat)(S:Nat→Prop)(w:World)(hs:GusAt w S a g)(hB:∀ b,S b→b<w.heap.size)(hl:g.length≤50) :
  Calls Tryz.prog 75 #[.agg #[.int .i64 op,.int .i64 fa,.int .i64 fb,.int .i64 fc,.int .i64 fd],.slice a g.length c] w (AlPost (allowI ⟨op,fa,fb,fc,fd⟩ g) w):=by
 have HK:∀ W:World,Below w.heap.size w W→Calls Tryz.prog 106 #[.slice a g.length c] W fun e w2=>e=.returned (.int .i64 (highI g))∧Below W.heap.size W w2:=fun W hW=>highestKeep_any a g c S W (hs.same (.of_below hW hB)) (fun b h=>Nat.lt_of_lt_of_le (hB b h) hW.size) hl
 have cas:op=31∨op=33∨op=34∨op=35∨op=36∨op=32∨(op≠31∧op≠33∧op≠34∧op≠35∧op≠36∧op≠32):=by omega
 by_cases h0:g.length=0
 ·have hd1:decide ((g.length:Int)<50)=true:=decide_eq_true (by omega)
  have hd2:decide (0<g.length)=false:=decide_eq_false (by omega)
  rcases cas with rfl | rfl | rfl | rfl | rfl | rfl | ⟨h1,h2,h3,h4,h5,h6⟩
  ·rw[allow_31,hd1,Bool.true_and];rw[h0]at HK ⊢;exact al_31_n fa fb fc fd _ c a w HK
  ·rw[allow_33,hd1,Bool.true_and];rw[h0]at HK ⊢;exact al_33_n fa fb fc fd _ c a w HK
  ·rw[allow_34,hd2,Bool.false_and,Bool.false_and];rw[h0]at HK ⊢;exact al_34_n fa fb fc fd _ c a w HK
  ·rw[allow_35,hd2,Bool.false_and];rw[h0]at HK ⊢;exact al_35_n fa fb fc fd _ c a w HK
  ·rw[allow_36,hd2,Bool.false_and];rw[h0]at HK ⊢;exact al_36_n fa fb fc fd _ c a w HK
  ·rw[allow_32,hd2,Bool.false_and];rw[h0]at HK ⊢;exact al_32_n fa fb fc fd _ c a w HK
  ·rw[allow_else h1 h2 h3 h4 h5 h6];rw[h0]at HK ⊢;exact al_op_n op fa fb fc fd _ c a w HK h1 h2 h3 h4 h5 h6
 ·obtain⟨m,hm⟩:∃ m,g.length=m+1:=⟨g.length-1,by omega⟩
  obtain⟨b,off,rfl,hb,hcc⟩:=hs.2 (by omega)
  have c0:=(hcc m (by omega)).1
  have hm50:m<50:=by omega
  have hd2:decide (0<g.length)=true:=decide_eq_true (by omega)
  have hd1:decide ((g.length:Int)<50)=decide (m+1<50):=by rw[hm];exact decide_eq_decide.2 (by omega)
  have hla:g[m]?.getD GuD.z=lastG g:=by unfold lastG;rw[hm];rfl
  rw[hla]at c0
  clear hs hB hcc
  cases ht:(lastG g).tr<;>rw[ht]at c0
  ·rcases cas with rfl | rfl | rfl | rfl | rfl | rfl | ⟨h1,h2,h3,h4,h5,h6⟩
   ·rw[allow_31,hd1];rw[hm]at HK ⊢;by_cases hlt:m+1<50
    ·rw[decide_eq_true hlt,Bool.true_and];exact al_31_fy fa fb fc fd _ c b off m w c0 hm50 HK hlt
    ·rw[decide_eq_false hlt,Bool.false_and];exact al_31_fx fa fb fc fd _ c b off m w c0 hm50 HK hlt
   ·rw[allow_33,hd1];rw[hm]at HK ⊢;by_cases hlt:m+1<50
    ·rw[decide_eq_true hlt,Bool.true_and];exact al_33_fy fa fb fc fd _ c b off m w c0 hm50 HK hlt
    ·rw[decide_eq_false hlt,Bool.false_and];exact al_33_fx fa fb fc fd _ c b off m w c0 hm50 HK hlt
   ·rw[allow_34,hd2,ht];simp only[Bool.true_and,Bool.not_false,Bool.not_true,Bool.false_and];rw[hm]at HK ⊢;exact al_34_f fa fb fc fd _ c b off m w c0 hm50 HK
   ·rw[allow_35,hd2,ht];simp only[Bool.true_and,Bool.not_false,Bool.not_true];rw[hm]at HK ⊢;exact al_35_f fa fb fc fd _ c b off m w c0 hm50 HK
   ·rw[allow_36,hd2,ht];simp only[Bool.true_and,Bool.not_false,Bool.not_true];rw[hm]at HK ⊢;exact al_36_f fa fb fc fd _ c b off m w c0 hm50 HK
   ·rw[allow_32,hd2,ht];simp only[Bool.true_and,Bool.not_false,Bool.not_true];rw[hm]at HK ⊢;exact al_32_f fa fb fc fd _ c b off m w c0 hm50 HK
   ·rw[allow_else h1 h2 h3 h4 h5 h6];rw[hm]at HK ⊢;exact al_op_f op fa fb fc fd _ c b off m w c0 hm50 HK h1 h2 h3 h4 h5 h6
  ·rcases cas with rfl | rfl | rfl | rfl | rfl | rfl | ⟨h1,h2,h3,h4,h5,h6⟩
   ·rw[allow_31,hd1];rw[hm]at HK ⊢;by_cases hlt:m+1<50
    ·rw[decide_eq_true hlt,Bool.true_and];exact al_31_ty fa fb fc fd _ c b off m w c0 hm50 HK hlt
    ·rw[decide_eq_false hlt,Bool.false_and];exact al_31_tx fa fb fc fd _ c b off m w c0 hm50 HK hlt
   ·rw[allow_33,hd1];rw[hm]at HK ⊢;by_cases hlt:m+1<50
    ·rw[decide_eq_true hlt,Bool.true_and];exact al_33_ty fa fb fc fd _ c b off m w c0 hm50 HK hlt
    ·rw[decide_eq_false hlt,Bool.false_and];exact al_33_tx fa fb fc fd _ c b off m w c0 hm50 HK hlt
   ·rw[allow_34,hd2,ht];simp only[Bool.true_and,Bool.not_false,Bool.not_true,Bool.false_and];rw[hm]at HK ⊢;exact al_34_t fa fb fc fd _ c b off m w c0 hm50 HK
   ·rw[allow_35,hd2,ht];simp only[Bool.true_and,Bool.not_false,Bool.not_true];rw[hm]at HK ⊢;exact al_35_t fa fb fc fd _ c b off m w c0 hm50 HK
   ·rw[allow_36,hd2,ht];simp only[Bool.true_and,Bool.not_false,Bool.not_true];rw[hm]at HK ⊢;exact al_36_t fa fb fc fd _ c b off m w c0 hm50 HK
   ·rw[allow_32,hd2,ht];simp only[Bool.true_and,Bool.not_false,Bool.not_true];rw[hm]at HK ⊢;exact al_32_t fa fb fc fd _ c b off m w c0 hm50 HK
   ·rw[allow_else h1 h2 h3 h4 h5 h6];rw[hm]at HK ⊢;exact al_op_t op fa fb fc fd _ c b off m w c0 hm50 HK h1 h2 h3 h4 h5 h6
end Go.Proofs.YtmjcpapdncfkpaaGreatDoor

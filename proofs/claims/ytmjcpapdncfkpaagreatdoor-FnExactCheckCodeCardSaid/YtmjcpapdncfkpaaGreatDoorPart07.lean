import Derived.Test.YtmjcpapdncfkpaaGreatDoorPart06
set_option linter.unusedSimpArgs false
set_option linter.unusedVariables false
set_option maxHeartbeats 2000000
set_option maxRecDepth 100000
namespace Go.Proofs.YtmjcpapdncfkpaaGreatDoor
open Go.RowKit
def rolesT:List (Int×List Nat):=[(1,[11,0,0,0]),(2,[12,0,0,0]),(3,[0,0,0,0]),(32,[0,0,0,0]),(36,[0,0,0,0]),(4,[1,7,0,0]),(5,[1,2,0,0]),(6,[1,2,0,0]),(7,[1,5,0,0]),(8,[5,2,0,0]),(9,[1,8,0,0]),(10,[8,2,0,0]),(11,[1,9,0,0]),(12,[1,0,0,0]),(22,[1,0,0,0]),(13,[4,2,2,0]),(14,[4,2,3,0]),(15,[1,2,2,0]),(16,[2,2,2,0]),(17,[1,15,2,0]),(18,[1,16,2,2]),(19,[10,0,0,0]),(20,[2,10,0,0]),(21,[2,10,0,0]),(23,[6,2,0,0]),(24,[6,3,0,0]),(25,[1,3,0,0]),(26,[1,6,17,0]),(27,[1,6,0,0]),(28,[1,2,3,0]),(29,[3,0,0,0]),(30,[2,0,0,0]),(31,[10,14,0,0]),(33,[13,0,0,0]),(34,[13,0,0,0]),(35,[2,3,0,0]),(37,[18,0,0,0]),(38,[18,10,0,0]),(39,[18,10,0,0]),(40,[19,0,0,0]),(41,[20,10,1,0]),(42,[21,0,0,0])]
def lookR (op:Int):List (Int×List Nat)→Option (List Nat)
 | []=>none
 | (k,r)::t=>if op=k then some r else lookR op t
def rolesC (op:Int):Option (List Nat):=lookR op rolesT
def Four (w w':World)(e:Ending)(r:List Nat):Prop:=
 ∃ b,e=.returned (.slice (some ⟨b,0,none⟩) 4 4)∧w.heap.size≤b∧w'.rowIs b 3 4 (fun j=>.int .i64 ((r[j]?.getD 0:Nat):Int))∧Below w.heap.size w w'
theorem four_mk (w:World)(a b c d:Nat):Four w (w.alloc (.cells #[.int .i64 a,.int .i64 b,.int .i64 c,.int .i64 d] 3)) (.returned (.slice (some ⟨w.heap.size,0,none⟩) 4 4)) [a,b,c,d]:=
 ⟨_,rfl,Nat.le_refl _,World.rowIs_alloc w #[.int .i64 a,.int .i64 b,.int .i64 c,.int .i64 d] 3 _ (fun i hi=>by
  match i,hi with
  | 0,_=>rfl | 1,_=>rfl | 2,_=>rfl | 3,_=>rfl | n+4,h=>exact absurd h (by simp)),(Below.refl _ _).alloc (Nat.le_refl _) _⟩
theorem l6roles_1 (w:World):Calls Tryz.prog 56 #[.int .i64 1] w fun e w'=>Four w w' e [11,0,0,0]:=by
 go_enter Tryz.func56,Tryz.ntmps56
 go_wp2_with fail
 go_ret
 exact four_mk w 11 0 0 0
theorem l6roles_2 (w:World):Calls Tryz.prog 56 #[.int .i64 2] w fun e w'=>Four w w' e [12,0,0,0]:=by
 go_enter Tryz.func56,Tryz.ntmps56
 go_wp2_with fail
 go_ret
 exact four_mk w 12 0 0 0
theorem l6roles_3 (w:World):Calls Tryz.prog 56 #[.int .i64 3] w fun e w'=>Four w w' e [0,0,0,0]:=by
 go_enter Tryz.func56,Tryz.ntmps56
 go_wp2_with fail
 go_ret
 exact four_mk w 0 0 0 0
theorem l6roles_32 (w:World):Calls Tryz.prog 56 #[.int .i64 32] w fun e w'=>Four w w' e [0,0,0,0]:=by
 go_enter Tryz.func56,Tryz.ntmps56
 go_wp2_with fail
 go_ret
 exact four_mk w 0 0 0 0
theorem l6roles_36 (w:World):Calls Tryz.prog 56 #[.int .i64 36] w fun e w'=>Four w w' e [0,0,0,0]:=by
 go_enter Tryz.func56,Tryz.ntmps56
 go_wp2_with fail
 go_ret
 exact four_mk w 0 0 0 0
theorem l6roles_4 (w:World):Calls Tryz.prog 56 #[.int .i64 4] w fun e w'=>Four w w' e [1,7,0,0]:=by
 go_enter Tryz.func56,Tryz.ntmps56
 go_wp2_with fail
 go_ret
 exact four_mk w 1 7 0 0
theorem l6roles_5 (w:World):Calls Tryz.prog 56 #[.int .i64 5] w fun e w'=>Four w w' e [1,2,0,0]:=by
 go_enter Tryz.func56,Tryz.ntmps56
 go_wp2_with fail
 go_ret
 exact four_mk w 1 2 0 0
theorem l6roles_6 (w:World):Calls Tryz.prog 56 #[.int .i64 6] w fun e w'=>Four w w' e [1,2,0,0]:=by
 go_enter Tryz.func56,Tryz.ntmps56
 go_wp2_with fail
 go_ret
 exact four_mk w 1 2 0 0
theorem l6roles_7 (w:World):Calls Tryz.prog 56 #[.int .i64 7] w fun e w'=>Four w w' e [1,5,0,0]:=by
 go_enter Tryz.func56,Tryz.ntmps56
 go_wp2_with fail
 go_ret
 exact four_mk w 1 5 0 0
theorem l6roles_8 (w:World):Calls Tryz.prog 56 #[.int .i64 8] w fun e w'=>Four w w' e [5,2,0,0]:=by
 go_enter Tryz.func56,Tryz.ntmps56
 go_wp2_with fail
 go_ret
 exact four_mk w 5 2 0 0
theorem l6roles_9 (w:World):Calls Tryz.prog 56 #[.int .i64 9] w fun e w'=>Four w w' e [1,8,0,0]:=by
 go_enter Tryz.func56,Tryz.ntmps56
 go_wp2_with fail
 go_ret
 exact four_mk w 1 8 0 0
theorem l6roles_10 (w:World):Calls Tryz.prog 56 #[.int .i64 10] w fun e w'=>Four w w' e [8,2,0,0]:=by
 go_enter Tryz.func56,Tryz.ntmps56
 go_wp2_with fail
 go_ret
 exact four_mk w 8 2 0 0
theorem l6roles_11 (w:World):Calls Tryz.prog 56 #[.int .i64 11] w fun e w'=>Four w w' e [1,9,0,0]:=by
 go_enter Tryz.func56,Tryz.ntmps56
 go_wp2_with fail
 go_ret
 exact four_mk w 1 9 0 0
theorem l6roles_12 (w:World):Calls Tryz.prog 56 #[.int .i64 12] w fun e w'=>Four w w' e [1,0,0,0]:=by
 go_enter Tryz.func56,Tryz.ntmps56
 go_wp2_with fail
 go_ret
 exact four_mk w 1 0 0 0
theorem l6roles_22 (w:World):Calls Tryz.prog 56 #[.int .i64 22] w fun e w'=>Four w w' e [1,0,0,0]:=by
 go_enter Tryz.func56,Tryz.ntmps56
 go_wp2_with fail
 go_ret
 exact four_mk w 1 0 0 0
theorem l6roles_13 (w:World):Calls Tryz.prog 56 #[.int .i64 13] w fun e w'=>Four w w' e [4,2,2,0]:=by
 go_enter Tryz.func56,Tryz.ntmps56
 go_wp2_with fail
 go_ret
 exact four_mk w 4 2 2 0
theorem l6roles_14 (w:World):Calls Tryz.prog 56 #[.int .i64 14] w fun e w'=>Four w w' e [4,2,3,0]:=by
 go_enter Tryz.func56,Tryz.ntmps56
 go_wp2_with fail
 go_ret
 exact four_mk w 4 2 3 0
theorem l6roles_15 (w:World):Calls Tryz.prog 56 #[.int .i64 15] w fun e w'=>Four w w' e [1,2,2,0]:=by
 go_enter Tryz.func56,Tryz.ntmps56
 go_wp2_with fail
 go_ret
 exact four_mk w 1 2 2 0
theorem l6roles_16 (w:World):Calls Tryz.prog 56 #[.int .i64 16] w fun e w'=>Four w w' e [2,2,2,0]:=by
 go_enter Tryz.func56,Tryz.ntmps56
 go_wp2_with fail
 go_ret
 exact four_mk w 2 2 2 0
theorem l6roles_17 (w:World):Calls Tryz.prog 56 #[.int .i64 17] w fun e w'=>Four w w' e [1,15,2,0]:=by
 go_enter Tryz.func56,Tryz.ntmps56
 go_wp2_with fail
 go_ret
 exact four_mk w 1 15 2 0
theorem l6roles_18 (w:World):Calls Tryz.prog 56 #[.int .i64 18] w fun e w'=>Four w w' e [1,16,2,2]:=by
 go_enter Tryz.func56,Tryz.ntmps56
 go_wp2_with fail
 go_ret
 exact four_mk w 1 16 2 2
theorem l6roles_19 (w:World):Calls Tryz.prog 56 #[.int .i64 19] w fun e w'=>Four w w' e [10,0,0,0]:=by
 go_enter Tryz.func56,Tryz.ntmps56
 go_wp2_with fail
 go_ret
 exact four_mk w 10 0 0 0
theorem l6roles_20 (w:World):Calls Tryz.prog 56 #[.int .i64 20] w fun e w'=>Four w w' e [2,10,0,0]:=by
 go_enter Tryz.func56,Tryz.ntmps56
 go_wp2_with fail
 go_ret
 exact four_mk w 2 10 0 0
theorem l6roles_21 (w:World):Calls Tryz.prog 56 #[.int .i64 21] w fun e w'=>Four w w' e [2,10,0,0]:=by
 go_enter Tryz.func56,Tryz.ntmps56
 go_wp2_with fail
 go_ret
 exact four_mk w 2 10 0 0
theorem l6roles_23 (w:World):Calls Tryz.prog 56 #[.int .i64 23] w fun e w'=>Four w w' e [6,2,0,0]:=by
 go_enter Tryz.func56,Tryz.ntmps56
 go_wp2_with fail
 go_ret
 exact four_mk w 6 2 0 0
theorem l6roles_24 (w:World):Calls Tryz.prog 56 #[.int .i64 24] w fun e w'=>Four w w' e [6,3,0,0]:=by
 go_enter Tryz.func56,Tryz.ntmps56
 go_wp2_with fail
 go_ret
 exact four_mk w 6 3 0 0
theorem l6roles_25 (w:World):Calls Tryz.prog 56 #[.int .i64 25] w fun e w'=>Four w w' e [1,3,0,0]:=by
 go_enter Tryz.func56,Tryz.ntmps56
 go_wp2_with fail
 go_ret
 exact four_mk w 1 3 0 0
theorem l6roles_26 (w:World):Calls Tryz.prog 56 #[.int .i64 26] w fun e w'=>Four w w' e [1,6,17,0]:=by
 go_enter Tryz.func56,Tryz.ntmps56
 go_wp2_with fail
 go_ret
 exact four_mk w 1 6 17 0
theorem l6roles_27 (w:World):Calls Tryz.prog 56 #[.int .i64 27] w fun e w'=>Four w w' e [1,6,0,0]:=by
 go_enter Tryz.func56,Tryz.ntmps56
 go_wp2_with fail
 go_ret
 exact four_mk w 1 6 0 0
theorem l6roles_28 (w:World):Calls Tryz.prog 56 #[.int .i64 28] w fun e w'=>Four w w' e [1,2,3,0]:=by
 go_enter Tryz.func56,Tryz.ntmps56
 go_wp2_with fail
 go_ret
 exact four_mk w 1 2 3 0
theorem l6roles_29 (w:World):Calls Tryz.prog 56 #[.int .i64 29] w fun e w'=>Four w w' e [3,0,0,0]:=by
 go_enter Tryz.func56,Tryz.ntmps56
 go_wp2_with fail
 go_ret
 exact four_mk w 3 0 0 0
theorem l6roles_30 (w:World):Calls Tryz.prog 56 #[.int .i64 30] w fun e w'=>Four w w' e [2,0,0,0]:=by
 go_enter Tryz.func56,Tryz.ntmps56
 go_wp2_with fail
 go_ret
 exact four_mk w 2 0 0 0
theorem l6roles_31 (w:World):Calls Tryz.prog 56 #[.int .i64 31] w fun e w'=>Four w w' e [10,14,0,0]:=by
 go_enter Tryz.func56,Tryz.ntmps56
 go_wp2_with fail
 go_ret
 exact four_mk w 10 14 0 0
theorem l6roles_33 (w:World):Calls Tryz.prog 56 #[.int .i64 33] w fun e w'=>Four w w' e [13,0,0,0]:=by
 go_enter Tryz.func56,Tryz.ntmps56
 go_wp2_with fail
 go_ret
 exact four_mk w 13 0 0 0
theorem l6roles_34 (w:World):Calls Tryz.prog 56 #[.int .i64 34] w fun e w'=>Four w w' e [13,0,0,0]:=by
 go_enter Tryz.func56,Tryz.ntmps56
 go_wp2_with fail
 go_ret
 exact four_mk w 13 0 0 0
theorem l6roles_35 (w:World):Calls Tryz.prog 56 #[.int .i64 35] w fun e w'=>Four w w' e [2,3,0,0]:=by
 go_enter Tryz.func56,Tryz.ntmps56
 go_wp2_with fail
 go_ret
 exact four_mk w 2 3 0 0
theorem l6roles_37 (w:World):Calls Tryz.prog 56 #[.int .i64 37] w fun e w'=>Four w w' e [18,0,0,0]:=by
 go_enter Tryz.func56,Tryz.ntmps56
 go_wp2_with fail
 go_ret
 exact four_mk w 18 0 0 0
theorem l6roles_38 (w:World):Calls Tryz.prog 56 #[.int .i64 38] w fun e w'=>Four w w' e [18,10,0,0]:=by
 go_enter Tryz.func56,Tryz.ntmps56
 go_wp2_with fail
 go_ret
 exact four_mk w 18 10 0 0
theorem l6roles_39 (w:World):Calls Tryz.prog 56 #[.int .i64 39] w fun e w'=>Four w w' e [18,10,0,0]:=by
 go_enter Tryz.func56,Tryz.ntmps56
 go_wp2_with fail
 go_ret
 exact four_mk w 18 10 0 0
theorem l6roles_40 (w:World):Calls Tryz.prog 56 #[.int .i64 40] w fun e w'=>Four w w' e [19,0,0,0]:=by
 go_enter Tryz.func56,Tryz.ntmps56
 go_wp2_with fail
 go_ret
 exact four_mk w 19 0 0 0
theorem l6roles_41 (w:World):Calls Tryz.prog 56 #[.int .i64 41] w fun e w'=>Four w w' e [20,10,1,0]:=by
 go_enter Tryz.func56,Tryz.ntmps56
 go_wp2_with fail
 go_ret
 exact four_mk w 20 10 1 0
theorem l6roles_42 (w:World):Calls Tryz.prog 56 #[.int .i64 42] w fun e w'=>Four w w' e [21,0,0,0]:=by
 go_enter Tryz.func56,Tryz.ntmps56
 go_wp2_with fail
 go_ret
 exact four_mk w 21 0 0 0
theorem l6roles_none (op:Int)(w:World)(h1:(op==1)=false)(h2:(op==2)=false)(h3:(op==3)=false)(h32:(op==32)=false)(h36:(op==36)=false)(h4:(op==4)=false)(h5:(op==5)=false)(h6:(op==6)=false)(h7:(op==7)=false)(h8:(op==8)=false)(h9:(op==9)=false)(h10:(op==10)=false)(h11:(op==11)=false)(h12:(op==12)=false)(h22:(op==22)=false)(h13:(op==13)=false)(h14:(op==14)=false)(h15:(op==15)=false)(h16:(op==16)=false)(h17:(op==17)=false)(h18:(op==18)=false)(h19:(op==19)=false)(h20:(op==20)=false)(h21:(op==21)=false)(h23:(op==23)=false)(h24:(op==24)=false)(h25:(op==25)=false)(h26:(op==26)=false)(h27:(op==27)=false)(h28:(op==28)=false)(h29:(op==29)=false)(h30:(op==30)=false)(h31:(op==31)=false)(h33:(op==33)=false)(h34:(op==34)=false)(h35:(op==35)=false)(h37:(op==37)=false)(h38:(op==38)=false)(h39:(op==39)=false)(h40:(op==40)=false)(h41:(op==41)=false)(h42:(op==42)=false):Calls Tryz.prog 56 #[.int .i64 op] w fun e w'=>e=.returned (.slice none 0 0)∧w'=w:=by
 go_enter Tryz.func56,Tryz.ntmps56
 go_wp2_with fail
 go_ret
 exact⟨rfl,rfl⟩
theorem l6roles_any (op:Int)(w:World):Calls Tryz.prog 56 #[.int .i64 op] w fun e w'=>match rolesC op with | none=>e=.returned (.slice none 0 0)∧w'=w | some r=>Four w w' e r:=by
 by_cases h1:op=1
 ·subst h1;exact l6roles_1 w
 by_cases h2:op=2
 ·subst h2;exact l6roles_2 w
 by_cases h3:op=3
 ·subst h3;exact l6roles_3 w
 by_cases h32:op=32
 ·subst h32;exact l6roles_32 w
 by_cases h36:op=36
 ·subst h36;exact l6roles_36 w
 by_cases h4:op=4
 ·subst h4;exact l6roles_4 w
 by_cases h5:op=5
 ·subst h5;exact l6roles_5 w
 by_cases h6:op=6
 ·subst h6;exact l6roles_6 w
 by_cases h7:op=7
 ·subst h7;exact l6roles_7 w
 by_cases h8:op=8
 ·subst h8;exact l6roles_8 w
 by_cases h9:op=9
 ·subst h9;exact l6roles_9 w
 by_cases h10:op=10
 ·subst h10;exact l6roles_10 w
 by_cases h11:op=11
 ·subst h11;exact l6roles_11 w
 by_cases h12:op=12
 ·subst h12;exact l6roles_12 w
 by_cases h22:op=22
 ·subst h22;exact l6roles_22 w
 by_cases h13:op=13
 ·subst h13;exact l6roles_13 w
 by_cases h14:op=14
 ·subst h14;exact l6roles_14 w
 by_cases h15:op=15
 ·subst h15;exact l6roles_15 w
 by_cases h16:op=16
 ·subst h16;exact l6roles_16 w
 by_cases h17:op=17
 ·subst h17;exact l6roles_17 w
 by_cases h18:op=18
 ·subst h18;exact l6roles_18 w
 by_cases h19:op=19
 ·subst h19;exact l6roles_19 w
 by_cases h20:op=20
 ·subst h20;exact l6roles_20 w
 by_cases h21:op=21
 ·subst h21;exact l6roles_21 w
 by_cases h23:op=23
 ·subst h23;exact l6roles_23 w
 by_cases h24:op=24
 ·subst h24;exact l6roles_24 w
 by_cases h25:op=25
 ·subst h25;exact l6roles_25 w
 by_cases h26:op=26
 ·subst h26;exact l6roles_26 w
 by_cases h27:op=27
 ·subst h27;exact l6roles_27 w
 by_cases h28:op=28
 ·subst h28;exact l6roles_28 w
 by_cases h29:op=29
 ·subst h29;exact l6roles_29 w
 by_cases h30:op=30
 ·subst h30;exact l6roles_30 w
 by_cases h31:op=31
 ·subst h31;exact l6roles_31 w
 by_cases h33:op=33
 ·subst h33;exact l6roles_33 w
 by_cases h34:op=34
 ·subst h34;exact l6roles_34 w
 by_cases h35:op=35
 ·subst h35;exact l6roles_35 w
 by_cases h37:op=37
 ·subst h37;exact l6roles_37 w
 by_cases h38:op=38
 ·subst h38;exact l6roles_38 w
 by_cases h39:op=39
 ·subst h39;exact l6roles_39 w
 by_cases h40:op=40
 ·subst h40;exact l6roles_40 w
 by_cases h41:op=41
 ·subst h41;exact l6roles_41 w
 by_cases h42:op=42
 ·subst h42;exact l6roles_42 w
 have e:rolesC op=none:=by
  unfold rolesC rolesT
  simp only[lookR,h1,h2,h3,h32,h36,h4,h5,h6,h7,h8,h9,h10,h11,h12,h22,h13,h14,h15,h16,h17,h18,h19,h20,h21,h23,h24,h25,h26,h27,h28,h29,h30,h31,h33,h34,h35,h37,h38,h39,h40,h41,h42,if_false]
 rw[e]
 exact l6roles_none op w (beq_eq_false_iff_ne.2 h1) (beq_eq_false_iff_ne.2 h2) (beq_eq_false_iff_ne.2 h3) (beq_eq_false_iff_ne.2 h32) (beq_eq_false_iff_ne.2 h36) (beq_eq_false_iff_ne.2 h4) (beq_eq_false_iff_ne.2 h5) (beq_eq_false_iff_ne.2 h6) (beq_eq_false_iff_ne.2 h7) (beq_eq_false_iff_ne.2 h8) (beq_eq_false_iff_ne.2 h9) (beq_eq_false_iff_ne.2 h10) (beq_eq_false_iff_ne.2 h11) (beq_eq_false_iff_ne.2 h12) (beq_eq_false_iff_ne.2 h22) (beq_eq_false_iff_ne.2 h13) (beq_eq_false_iff_ne.2 h14) (beq_eq_false_iff_ne.2 h15) (beq_eq_false_iff_ne.2 h16) (beq_eq_false_iff_ne.2 h17) (beq_eq_false_iff_ne.2 h18) (beq_eq_false_iff_ne.2 h19) (beq_eq_false_iff_ne.2 h20) (beq_eq_false_iff_ne.2 h21) (beq_eq_false_iff_ne.2 h23) (beq_eq_false_iff_ne.2 h24) (beq_eq_false_iff_ne.2 h25) (beq_eq_false_iff_ne.2 h26) (beq_eq_false_iff_ne.2 h27) (beq_eq_false_iff_ne.2 h28) (beq_eq_false_iff_ne.2 h29) (beq_eq_false_iff_ne.2 h30) (beq_eq_false_iff_ne.2 h31) (beq_eq_false_iff_ne.2 h33) (beq_eq_false_iff_ne.2 h34) (beq_eq_false_iff_ne.2 h35) (beq_eq_false_iff_ne.2 h37) (beq_eq_false_iff_ne.2 h38) (beq_eq_false_iff_ne.2 h39) (beq_eq_false_iff_ne.2 h40) (beq_eq_false_iff_ne.2 h41) (beq_eq_false_iff_ne.2 h42)
theorem l6fields_any (op a b c d:Int)(w:World):Calls Tryz.prog 57 #[.agg #[.int .i64 op,.int .i64 a,.int .i64 b,.int .i64 c,.int .i64 d]] w fun e w'=>
  ∃ k,e=.returned (.slice (some ⟨k,0,none⟩) 4 4)∧w.heap.size≤k∧w'.rowIs k 3 4 (fun j=>.int .i64 ([a,b,c,d][j]?.getD 0))∧Below w.heap.size w w':=by
 go_enter Tryz.func57,Tryz.ntmps57
 go_wp2_with fail
 go_ret
 have h:=World.rowIs_alloc (w.alloc (.cells #[.int .i64 op,.int .i64 a,.int .i64 b,.int .i64 c,.int .i64 d] 60)) #[.int .i64 a,.int .i64 b,.int .i64 c,.int .i64 d] 3 (fun j=>.int .i64 ([a,b,c,d][j]?.getD 0)) (fun i hi=>by
  match i,hi with
  | 0,_=>rfl | 1,_=>rfl | 2,_=>rfl | 3,_=>rfl | n+4,h=>exact absurd h (by simp))
 exact⟨_,rfl,by simp,by simpa using h,((Below.refl _ _).alloc (Nat.le_refl _) _).alloc (by simp) _⟩
end Go.Proofs.YtmjcpapdncfkpaaGreatDoor

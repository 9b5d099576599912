import Derived.Test.YtcjfjflljdojlaaGreatDoorPart06
set_option linter.unusedSimpArgs false
set_option linter.unusedVariables false
set_option maxHeartbeats 2000000
set_option maxRecDepth 100000
namespace Go.Proofs.YtcjfjflljdojlaaGreatDoor
open Go.RowKit
def xF:List (Int×List Nat):=[(1,[11,0,0,0]),(2,[12,0,0,0]),(3,[0,0,0,0]),(32,[0,0,0,0]),(36,[0,0,0,0]),(4,[1,7,0,0]),(5,[1,2,0,0]),(6,[1,2,0,0]),(7,[1,5,0,0]),(8,[5,2,0,0]),(9,[1,8,0,0]),(10,[8,2,0,0]),(11,[1,9,0,0]),(12,[1,0,0,0]),(22,[1,0,0,0]),(13,[4,2,2,0]),(14,[4,2,3,0]),(15,[1,2,2,0]),(16,[2,2,2,0]),(17,[1,15,2,0]),(18,[1,16,2,2]),(19,[10,0,0,0]),(20,[2,10,0,0]),(21,[2,10,0,0]),(23,[6,2,0,0]),(24,[6,3,0,0]),(25,[1,3,0,0]),(26,[1,6,17,0]),(27,[1,6,0,0]),(28,[1,2,3,0]),(29,[3,0,0,0]),(30,[2,0,0,0]),(31,[10,14,0,0]),(33,[13,0,0,0]),(34,[13,0,0,0]),(35,[2,3,0,0]),(37,[18,0,0,0]),(38,[18,10,0,0]),(39,[18,10,0,0]),(40,[19,0,0,0]),(41,[20,10,1,0]),(42,[21,0,0,0])]
def uG (op:Int):List (Int×List Nat)->Option (List Nat)
 | []=>none
 | (k,r)::t=>if op=k then some r else uG op t
def bj (op:Int):Option (List Nat):=uG op xF
def eK (w w':World)(e:Ending)(r:List Nat):Prop:=
 ∃ b,e=.returned (.slice (some (a_ b 0)) 4 4)/\w.heap.size<=b/\w'.rowIs b 3 4 (fun j=>i_ ((r[j]?.getD 0:Nat):Int))/\b_ w w'
theorem bH (w:World)(a b c d:Nat):eK w (w.alloc (.cells #[i_ a,i_ b,i_ c,i_ d] 3)) (.returned (.slice (some (a_ w.heap.size 0)) 4 4)) [a,b,c,d]:=
 ⟨_,rfl,n_,World.rowIs_alloc w #[i_ a,i_ b,i_ c,i_ d] 3 _ (fun i hi=>by
  match i,hi with
  | 0,_=>rfl | 1,_=>rfl | 2,_=>rfl | 3,_=>rfl | n+4,h=>exact absurd h (by simp)),r_.alloc n_ _⟩
theorem Gq (w:World):c_ 103 #[i_ 1] w fun e w'=>eK w w' e [11,0,0,0]:=by
 go_enter Tryz.func103,Tryz.ntmps103;go_wp2_with fail
 go_ret;exact bH w 11 0 0 0
theorem GX (w:World):c_ 103 #[i_ 2] w fun e w'=>eK w w' e [12,0,0,0]:=by
 go_enter Tryz.func103,Tryz.ntmps103;go_wp2_with fail
 go_ret;exact bH w 12 0 0 0
theorem FD (w:World):c_ 103 #[i_ 3] w fun e w'=>eK w w' e [0,0,0,0]:=by
 go_enter Tryz.func103,Tryz.ntmps103;go_wp2_with fail
 go_ret;exact bH w 0 0 0 0
theorem DR (w:World):c_ 103 #[i_ 32] w fun e w'=>eK w w' e [0,0,0,0]:=by
 go_enter Tryz.func103,Tryz.ntmps103;go_wp2_with fail
 go_ret;exact bH w 0 0 0 0
theorem DO (w:World):c_ 103 #[i_ 36] w fun e w'=>eK w w' e [0,0,0,0]:=by
 go_enter Tryz.func103,Tryz.ntmps103;go_wp2_with fail
 go_ret;exact bH w 0 0 0 0
theorem FE (w:World):c_ 103 #[i_ 4] w fun e w'=>eK w w' e [1,7,0,0]:=by
 go_enter Tryz.func103,Tryz.ntmps103;go_wp2_with fail
 go_ret;exact bH w 1 7 0 0
theorem GH (w:World):c_ 103 #[i_ 5] w fun e w'=>eK w w' e [1,2,0,0]:=by
 go_enter Tryz.func103,Tryz.ntmps103;go_wp2_with fail
 go_ret;exact bH w 1 2 0 0
theorem Gp (w:World):c_ 103 #[i_ 6] w fun e w'=>eK w w' e [1,2,0,0]:=by
 go_enter Tryz.func103,Tryz.ntmps103;go_wp2_with fail
 go_ret;exact bH w 1 2 0 0
theorem FY (w:World):c_ 103 #[i_ 7] w fun e w'=>eK w w' e [1,5,0,0]:=by
 go_enter Tryz.func103,Tryz.ntmps103;go_wp2_with fail
 go_ret;exact bH w 1 5 0 0
theorem FH (w:World):c_ 103 #[i_ 8] w fun e w'=>eK w w' e [5,2,0,0]:=by
 go_enter Tryz.func103,Tryz.ntmps103;go_wp2_with fail
 go_ret;exact bH w 5 2 0 0
theorem GP (w:World):c_ 103 #[i_ 9] w fun e w'=>eK w w' e [1,8,0,0]:=by
 go_enter Tryz.func103,Tryz.ntmps103;go_wp2_with fail
 go_ret;exact bH w 1 8 0 0
theorem DU (w:World):c_ 103 #[i_ 10] w fun e w'=>eK w w' e [8,2,0,0]:=by
 go_enter Tryz.func103,Tryz.ntmps103;go_wp2_with fail
 go_ret;exact bH w 8 2 0 0
theorem CE (w:World):c_ 103 #[i_ 11] w fun e w'=>eK w w' e [1,9,0,0]:=by
 go_enter Tryz.func103,Tryz.ntmps103;go_wp2_with fail
 go_ret;exact bH w 1 9 0 0
theorem DF (w:World):c_ 103 #[i_ 12] w fun e w'=>eK w w' e [1,0,0,0]:=by
 go_enter Tryz.func103,Tryz.ntmps103;go_wp2_with fail
 go_ret;exact bH w 1 0 0 0
theorem DH (w:World):c_ 103 #[i_ 22] w fun e w'=>eK w w' e [1,0,0,0]:=by
 go_enter Tryz.func103,Tryz.ntmps103;go_wp2_with fail
 go_ret;exact bH w 1 0 0 0
theorem Di (w:World):c_ 103 #[i_ 13] w fun e w'=>eK w w' e [4,2,2,0]:=by
 go_enter Tryz.func103,Tryz.ntmps103;go_wp2_with fail
 go_ret;exact bH w 4 2 2 0
theorem C3 (w:World):c_ 103 #[i_ 14] w fun e w'=>eK w w' e [4,2,3,0]:=by
 go_enter Tryz.func103,Tryz.ntmps103;go_wp2_with fail
 go_ret;exact bH w 4 2 3 0
theorem Cj (w:World):c_ 103 #[i_ 15] w fun e w'=>eK w w' e [1,2,2,0]:=by
 go_enter Tryz.func103,Tryz.ntmps103;go_wp2_with fail
 go_ret;exact bH w 1 2 2 0
theorem Cv (w:World):c_ 103 #[i_ 16] w fun e w'=>eK w w' e [2,2,2,0]:=by
 go_enter Tryz.func103,Tryz.ntmps103;go_wp2_with fail
 go_ret;exact bH w 2 2 2 0
theorem DZ (w:World):c_ 103 #[i_ 17] w fun e w'=>eK w w' e [1,15,2,0]:=by
 go_enter Tryz.func103,Tryz.ntmps103;go_wp2_with fail
 go_ret;exact bH w 1 15 2 0
theorem Dq (w:World):c_ 103 #[i_ 18] w fun e w'=>eK w w' e [1,16,2,2]:=by
 go_enter Tryz.func103,Tryz.ntmps103;go_wp2_with fail
 go_ret;exact bH w 1 16 2 2
theorem DC (w:World):c_ 103 #[i_ 19] w fun e w'=>eK w w' e [10,0,0,0]:=by
 go_enter Tryz.func103,Tryz.ntmps103;go_wp2_with fail
 go_ret;exact bH w 10 0 0 0
theorem Cr (w:World):c_ 103 #[i_ 20] w fun e w'=>eK w w' e [2,10,0,0]:=by
 go_enter Tryz.func103,Tryz.ntmps103;go_wp2_with fail
 go_ret;exact bH w 2 10 0 0
theorem Dh (w:World):c_ 103 #[i_ 21] w fun e w'=>eK w w' e [2,10,0,0]:=by
 go_enter Tryz.func103,Tryz.ntmps103;go_wp2_with fail
 go_ret;exact bH w 2 10 0 0
theorem D5 (w:World):c_ 103 #[i_ 23] w fun e w'=>eK w w' e [6,2,0,0]:=by
 go_enter Tryz.func103,Tryz.ntmps103;go_wp2_with fail
 go_ret;exact bH w 6 2 0 0
theorem D0 (w:World):c_ 103 #[i_ 24] w fun e w'=>eK w w' e [6,3,0,0]:=by
 go_enter Tryz.func103,Tryz.ntmps103;go_wp2_with fail
 go_ret;exact bH w 6 3 0 0
theorem C9 (w:World):c_ 103 #[i_ 25] w fun e w'=>eK w w' e [1,3,0,0]:=by
 go_enter Tryz.func103,Tryz.ntmps103;go_wp2_with fail
 go_ret;exact bH w 1 3 0 0
theorem DQ (w:World):c_ 103 #[i_ 26] w fun e w'=>eK w w' e [1,6,17,0]:=by
 go_enter Tryz.func103,Tryz.ntmps103;go_wp2_with fail
 go_ret;exact bH w 1 6 17 0
theorem B7 (w:World):c_ 103 #[i_ 27] w fun e w'=>eK w w' e [1,6,0,0]:=by
 go_enter Tryz.func103,Tryz.ntmps103;go_wp2_with fail
 go_ret;exact bH w 1 6 0 0
theorem Dr (w:World):c_ 103 #[i_ 28] w fun e w'=>eK w w' e [1,2,3,0]:=by
 go_enter Tryz.func103,Tryz.ntmps103;go_wp2_with fail
 go_ret;exact bH w 1 2 3 0
theorem DY (w:World):c_ 103 #[i_ 29] w fun e w'=>eK w w' e [3,0,0,0]:=by
 go_enter Tryz.func103,Tryz.ntmps103;go_wp2_with fail
 go_ret;exact bH w 3 0 0 0
theorem Co (w:World):c_ 103 #[i_ 30] w fun e w'=>eK w w' e [2,0,0,0]:=by
 go_enter Tryz.func103,Tryz.ntmps103;go_wp2_with fail
 go_ret;exact bH w 2 0 0 0
theorem DM (w:World):c_ 103 #[i_ 31] w fun e w'=>eK w w' e [10,14,0,0]:=by
 go_enter Tryz.func103,Tryz.ntmps103;go_wp2_with fail
 go_ret;exact bH w 10 14 0 0
theorem C4 (w:World):c_ 103 #[i_ 33] w fun e w'=>eK w w' e [13,0,0,0]:=by
 go_enter Tryz.func103,Tryz.ntmps103;go_wp2_with fail
 go_ret;exact bH w 13 0 0 0
theorem CY (w:World):c_ 103 #[i_ 34] w fun e w'=>eK w w' e [13,0,0,0]:=by
 go_enter Tryz.func103,Tryz.ntmps103;go_wp2_with fail
 go_ret;exact bH w 13 0 0 0
theorem Ch (w:World):c_ 103 #[i_ 35] w fun e w'=>eK w w' e [2,3,0,0]:=by
 go_enter Tryz.func103,Tryz.ntmps103;go_wp2_with fail
 go_ret;exact bH w 2 3 0 0
theorem Du (w:World):c_ 103 #[i_ 37] w fun e w'=>eK w w' e [18,0,0,0]:=by
 go_enter Tryz.func103,Tryz.ntmps103;go_wp2_with fail
 go_ret;exact bH w 18 0 0 0
theorem Cx (w:World):c_ 103 #[i_ 38] w fun e w'=>eK w w' e [18,10,0,0]:=by
 go_enter Tryz.func103,Tryz.ntmps103;go_wp2_with fail
 go_ret;exact bH w 18 10 0 0
theorem Cq (w:World):c_ 103 #[i_ 39] w fun e w'=>eK w w' e [18,10,0,0]:=by
 go_enter Tryz.func103,Tryz.ntmps103;go_wp2_with fail
 go_ret;exact bH w 18 10 0 0
theorem DD (w:World):c_ 103 #[i_ 40] w fun e w'=>eK w w' e [19,0,0,0]:=by
 go_enter Tryz.func103,Tryz.ntmps103;go_wp2_with fail
 go_ret;exact bH w 19 0 0 0
theorem BV (w:World):c_ 103 #[i_ 41] w fun e w'=>eK w w' e [20,10,1,0]:=by
 go_enter Tryz.func103,Tryz.ntmps103;go_wp2_with fail
 go_ret;exact bH w 20 10 1 0
theorem DB (w:World):c_ 103 #[i_ 42] w fun e w'=>eK w w' e [21,0,0,0]:=by
 go_enter Tryz.func103,Tryz.ntmps103;go_wp2_with fail
 go_ret;exact bH w 21 0 0 0
theorem xu (op:Int)(w:World)(h1:(op==1)=false)(h2:(op==2)=false)(h3:(op==3)=false)(h32:(op==32)=false)(h36:(op==36)=false)(h4:(op==4)=false)(h5:(op==5)=false)(h6:(op==6)=false)(h7:(op==7)=false)(h8:(op==8)=false)(h9:(op==9)=false)(h10:(op==10)=false)(h11:(op==11)=false)(sP:(op==12)=false)(h22:(op==22)=false)(h13:(op==13)=false)(h14:(op==14)=false)(h15:(op==15)=false)(h16:(op==16)=false)(h17:(op==17)=false)(h18:(op==18)=false)(h19:(op==19)=false)(Fo:(op==20)=false)(Fl:(op==21)=false)(h23:(op==23)=false)(h24:(op==24)=false)(h25:(op==25)=false)(h26:(op==26)=false)(h27:(op==27)=false)(h28:(op==28)=false)(wh:(op==29)=false)(Sf:(op==30)=false)(Hz:(op==31)=false)(h33:(op==33)=false)(h34:(op==34)=false)(h35:(op==35)=false)(h37:(op==37)=false)(Fp:(op==38)=false)(Fk:(op==39)=false)(h40:(op==40)=false)(Ff:(op==41)=false)(h42:(op==42)=false):c_ 103 #[i_ op] w fun e w'=>e=.returned (.slice none 0 0)/\w'=w:=by
 go_enter Tryz.func103,Tryz.ntmps103;go_wp2_with fail
 go_ret;exact⟨rfl,rfl⟩
theorem il (op:Int)(w:World):c_ 103 #[i_ op] w fun e w'=>match bj op with | none=>e=.returned (.slice none 0 0)/\w'=w | some r=>eK w w' e r:=by
 by_cases h1:op=1
 ·aj h1;exact Gq w
 by_cases h2:op=2
 ·aj h2;exact GX w
 by_cases h3:op=3
 ·aj h3;exact FD w
 by_cases h32:op=32
 ·aj h32;exact DR w
 by_cases h36:op=36
 ·aj h36;exact DO w
 by_cases h4:op=4
 ·aj h4;exact FE w
 by_cases h5:op=5
 ·aj h5;exact GH w
 by_cases h6:op=6
 ·aj h6;exact Gp w
 by_cases h7:op=7
 ·aj h7;exact FY w
 by_cases h8:op=8
 ·aj h8;exact FH w
 by_cases h9:op=9
 ·aj h9;exact GP w
 by_cases h10:op=10
 ·aj h10;exact DU w
 by_cases h11:op=11
 ·aj h11;exact CE w
 by_cases sP:op=12
 ·aj sP;exact DF w
 by_cases h22:op=22
 ·aj h22;exact DH w
 by_cases h13:op=13
 ·aj h13;exact Di w
 by_cases h14:op=14
 ·aj h14;exact C3 w
 by_cases h15:op=15
 ·aj h15;exact Cj w
 by_cases h16:op=16
 ·aj h16;exact Cv w
 by_cases h17:op=17
 ·aj h17;exact DZ w
 by_cases h18:op=18
 ·aj h18;exact Dq w
 by_cases h19:op=19
 ·aj h19;exact DC w
 by_cases Fo:op=20
 ·aj Fo;exact Cr w
 by_cases Fl:op=21
 ·aj Fl;exact Dh w
 by_cases h23:op=23
 ·aj h23;exact D5 w
 by_cases h24:op=24
 ·aj h24;exact D0 w
 by_cases h25:op=25
 ·aj h25;exact C9 w
 by_cases h26:op=26
 ·aj h26;exact DQ w
 by_cases h27:op=27
 ·aj h27;exact B7 w
 by_cases h28:op=28
 ·aj h28;exact Dr w
 by_cases wh:op=29
 ·aj wh;exact DY w
 by_cases Sf:op=30
 ·aj Sf;exact Co w
 by_cases Hz:op=31
 ·aj Hz;exact DM w
 by_cases h33:op=33
 ·aj h33;exact C4 w
 by_cases h34:op=34
 ·aj h34;exact CY w
 by_cases h35:op=35
 ·aj h35;exact Ch w
 by_cases h37:op=37
 ·aj h37;exact Du w
 by_cases Fp:op=38
 ·aj Fp;exact Cx w
 by_cases Fk:op=39
 ·aj Fk;exact Cq w
 by_cases h40:op=40
 ·aj h40;exact DD w
 by_cases Ff:op=41
 ·aj Ff;exact BV w
 by_cases h42:op=42
 ·aj h42;exact DB w
 have e:bj op=none:=by
  unfold bj xF;simp only[uG,h1,h2,h3,h32,h36,h4,h5,h6,h7,h8,h9,h10,h11,sP,h22,h13,h14,h15,h16,h17,h18,h19,Fo,Fl,h23,h24,h25,h26,h27,h28,wh,Sf,Hz,h33,h34,h35,h37,Fp,Fk,h40,Ff,h42,if_false]
 rw[e];exact xu op w (beq_eq_false_iff_ne.2 h1) (beq_eq_false_iff_ne.2 h2) (beq_eq_false_iff_ne.2 h3) (beq_eq_false_iff_ne.2 h32) (beq_eq_false_iff_ne.2 h36) (beq_eq_false_iff_ne.2 h4) (beq_eq_false_iff_ne.2 h5) (beq_eq_false_iff_ne.2 h6) (beq_eq_false_iff_ne.2 h7) (beq_eq_false_iff_ne.2 h8) (beq_eq_false_iff_ne.2 h9) (beq_eq_false_iff_ne.2 h10) (beq_eq_false_iff_ne.2 h11) (beq_eq_false_iff_ne.2 sP) (beq_eq_false_iff_ne.2 h22) (beq_eq_false_iff_ne.2 h13) (beq_eq_false_iff_ne.2 h14) (beq_eq_false_iff_ne.2 h15) (beq_eq_false_iff_ne.2 h16) (beq_eq_false_iff_ne.2 h17) (beq_eq_false_iff_ne.2 h18) (beq_eq_false_iff_ne.2 h19) (beq_eq_false_iff_ne.2 Fo) (beq_eq_false_iff_ne.2 Fl) (beq_eq_false_iff_ne.2 h23) (beq_eq_false_iff_ne.2 h24) (beq_eq_false_iff_ne.2 h25) (beq_eq_false_iff_ne.2 h26) (beq_eq_false_iff_ne.2 h27) (beq_eq_false_iff_ne.2 h28) (beq_eq_false_iff_ne.2 wh) (beq_eq_false_iff_ne.2 Sf) (beq_eq_false_iff_ne.2 Hz) (beq_eq_false_iff_ne.2 h33) (beq_eq_false_iff_ne.2 h34) (beq_eq_false_iff_ne.2 h35) (beq_eq_false_iff_ne.2 h37) (beq_eq_false_iff_ne.2 Fp) (beq_eq_false_iff_ne.2 Fk) (beq_eq_false_iff_ne.2 h40) (beq_eq_false_iff_ne.2 Ff) (beq_eq_false_iff_ne.2 h42)
theorem lQ (op a b c d:Int)(w:World):c_ 104 #[.agg #[i_ op,i_ a,i_ b,i_ c,i_ d]] w fun e w'=>
  ∃ k,e=.returned (.slice (some (a_ k 0)) 4 4)/\w.heap.size<=k/\w'.rowIs k 3 4 (fun j=>i_ ([a,b,c,d][j]?.getD 0))/\b_ w w':=by
 go_enter Tryz.func104,Tryz.ntmps104;go_wp2_with fail
 go_ret;have h:=World.rowIs_alloc (w.alloc (.cells #[i_ op,i_ a,i_ b,i_ c,i_ d] 51)) #[i_ a,i_ b,i_ c,i_ d] 3 (fun j=>i_ ([a,b,c,d][j]?.getD 0)) (fun i hi=>by
  match i,hi with
  | 0,_=>rfl | 1,_=>rfl | 2,_=>rfl | 3,_=>rfl | n+4,h=>exact absurd h (by simp))
 exact⟨_,rfl,by simp,by simpa using h,(r_.alloc n_ _).alloc (by simp) _⟩
end Go.Proofs.YtcjfjflljdojlaaGreatDoor

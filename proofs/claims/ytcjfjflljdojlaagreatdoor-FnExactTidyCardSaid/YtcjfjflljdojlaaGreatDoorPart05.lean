import Derived.Test.YtcjfjflljdojlaaGreatDoorPart04
import Derived.Deep.LoopGhost
set_option linter.all false
set_option maxHeartbeats 8000000
set_option maxRecDepth 100000
namespace Go.Proofs.YtcjfjflljdojlaaGreatDoor
open Go.RowKit
def dh (n:aj)(np:Nat)(x:Int):Nat->Bool
 | 0=>x==0
 | 1=>dw x 0 (n.m-1)
 | 2=>dw x (-n.m) (n.m-1)
 | 3=>dw x (-n.m) (n.m-1)
 | 4=>dw x 0 (n.m-1)
 | 5=>dw x 0 (n.m-1)
 | 6=>dw x 0 (n.m-1)
 | 7=>dw x 0 ((n.k.length:Int)-1)
 | 8=>dw x 0 ((n.s.length:Int)-1)
 | 9=>dw x 0 ((np:Int)-1)
 | 10=>dw x 0 ((n.u.length:Int)-1)
 | 11=>dw x 1 100000
 | 12=>dw x 0 100000
 | 13=>dw x 0 n.m
 | 14=>dw x 0 (n.m-2)
 | 15=>dw x 19 22
 | 16=>dw x 1 18
 | 17=>dw x 0 250
 | 18=>dw x 0 (n.m-3)
 | 19=>dw x 0 (n.m-2)
 | 20=>dw x 0 (n.m-2)
 | _=>dw x 0 (n.m-1)
theorem JF (a:o_)(l:List aj)(c p:Nat)(x:Int)(S:Nat->Prop)(w:w_)(hs:am w S a l)(hB:∀ b,S b->b<w.heap.size)(hp:p<l.length)(ko:0<=(al l p).m/\(al l p).m<=250) :
  c_ 135 #[.agg #[.slice a l.length c],i_ p,i_ 0,i_ x] w fun e w'=>e=.returned (.bool (dh (al l p) l.length x 0))/\b_ w w':=by
 have hn:=hs.1;obtain⟨b,off,rfl,hb,aC⟩:=hs.2 (by omega);have N:aT w S b (off+p * 9) (al l p):=aC p hp;have cY:=hB b hb;clear aC hs hB;have dQ:H_ (∀ o1 o2,b_ w ((w.alloc o1).alloc o2)):=fun o1 o2=>(r_.alloc n_ o1).alloc (by simp) o2;generalize al l p=n at *;obtain⟨a5,c5,h5,H5⟩:=N.s;obtain⟨a6,c6,h6,H6⟩:=N.k;obtain⟨a7,c7,h7,H7⟩:=N.u;obtain⟨a8,c8,h8,H8⟩:=N.g;have c0:=N.name;have c1:=N.f;have c2:=N.l;have c3:=N.e;have c4:=N.m;have QO:=N.names;have hu:=H5.1;have qI:=H6.1;have jl:=H7.1;have Bc:=H8.1;clear N H5 H6 H7 H8;obtain⟨nm,ln,pr,rs,rg,us,cs,is,ns⟩:=n;simp only at *;obtain⟨qK,vl⟩:=ko;have R:H_ ((x==0)=dh ⟨nm,ln,pr,rs,rg,us,cs,is,ns⟩ l.length x 0):=rfl;generalize dh ⟨nm,ln,pr,rs,rg,us,cs,is,ns⟩ l.length x 0=res at *;go_enter Tryz.func135,Tryz.ntmps135;go_wp2
 go_ret;exact⟨ak (aa R),aa dQ _ _⟩
theorem Cl (a:o_)(l:List aj)(c p r:Nat)(x:Int)(S:Nat->Prop)(w:w_)(hs:am w S a l)(hB:∀ b,S b->b<w.heap.size)(hp:p<l.length)(ko:0<=(al l p).m/\(al l p).m<=250)(hr:r<=21) :
  c_ 135 #[.agg #[.slice a l.length c],i_ p,i_ r,i_ x] w fun e w'=>e=.returned (.bool (dh (al l p) l.length x r))/\b_ w w':=by
 by_cases h0:r=0;{subst h0;exact JF a l c p x S w hs hB hp ko}
 have hn:=hs.1;obtain⟨b,off,rfl,hb,aC⟩:=hs.2 (by omega);have N:aT w S b (off+p * 9) (al l p):=aC p hp;have cY:=hB b hb;clear aC hs hB;have dQ:H_ (∀ o1 o2,b_ w ((w.alloc o1).alloc o2)):=fun o1 o2=>(r_.alloc n_ o1).alloc (by simp) o2;generalize al l p=n at *;obtain⟨a5,c5,h5,H5⟩:=N.s;obtain⟨a6,c6,h6,H6⟩:=N.k;obtain⟨a7,c7,h7,H7⟩:=N.u;obtain⟨a8,c8,h8,H8⟩:=N.g;have c0:=N.name;have c1:=N.f;have c2:=N.l;have c3:=N.e;have c4:=N.m;have QO:=N.names;have hu:=H5.1;have qI:=H6.1;have jl:=H7.1;have Bc:=H8.1;clear N H5 H6 H7 H8;obtain⟨nm,ln,pr,rs,rg,us,cs,is,ns⟩:=n;simp only at *;obtain⟨qK,vl⟩:=ko;obtain⟨res,yR⟩:∃ res,dh ⟨nm,ln,pr,rs,rg,us,cs,is,ns⟩ l.length x r=res:=⟨_,rfl⟩;rw[yR];have R:=af yR;have hc:r=1\/r=2\/r=3\/r=4\/r=5\/r=6\/r=7\/r=8\/r=9\/r=10\/r=11\/r=12\/r=13\/r=14\/r=15\/r=16\/r=17\/r=18\/r=19\/r=20\/r=21:=by omega
 clear yR hr h0;rcases hc with rfl | rfl | rfl | rfl | rfl | rfl | rfl | rfl | rfl | rfl | rfl | rfl | rfl | rfl | rfl | rfl | rfl | rfl | rfl | rfl | rfl;all_goals go_enter Tryz.func135,Tryz.ntmps135;go_wp2_with fail;refine(aB _ _ _ _).mono ?_;rintro e w' ⟨rfl,rfl⟩;go_wp2;go_ret;exact⟨ak (aa R),aa dQ _ _⟩
def xP:List (Int×List Nat):=[(1,[11,0,0,0]),(2,[12,0,0,0]),(3,[0,0,0,0]),(32,[0,0,0,0]),(36,[0,0,0,0]),(4,[1,7,0,0]),(5,[1,2,0,0]),(6,[1,2,0,0]),(7,[1,5,0,0]),(8,[5,2,0,0]),(9,[1,8,0,0]),(10,[8,2,0,0]),(11,[1,9,0,0]),(12,[1,0,0,0]),(22,[1,0,0,0]),(13,[4,2,2,0]),(14,[4,2,3,0]),(15,[1,2,2,0]),(16,[2,2,2,0]),(17,[1,15,2,0]),(18,[1,16,2,2]),(19,[10,0,0,0]),(20,[2,10,0,0]),(21,[2,10,0,0]),(23,[6,2,0,0]),(24,[6,3,0,0]),(25,[1,3,0,0]),(26,[1,6,17,0]),(27,[1,6,0,0]),(28,[1,2,3,0]),(29,[3,0,0,0]),(30,[2,0,0,0]),(31,[10,14,0,0]),(33,[13,0,0,0]),(34,[13,0,0,0]),(35,[2,3,0,0]),(37,[18,0,0,0]),(38,[18,10,0,0]),(39,[18,10,0,0]),(40,[19,0,0,0]),(41,[20,10,1,0]),(42,[21,0,0,0])]
def uI (op:Int):List (Int×List Nat)->Option (List Nat)
 | []=>none
 | (k,r)::t=>if op=k then some r else uI op t
def bh (op:Int):Option (List Nat):=uI op xP
def eJ (w w':w_)(e:Ending)(r:List Nat):Prop:=
 ∃ b,e=.returned (s_ b 0 4 4)/\w.heap.size<=b/\w'.rowIs b 3 4 (fun j=>i_ ((r[j]?.getD 0:Nat):Int))/\b_ w w'
theorem bE (w:w_)(a b c d:Nat):eJ w (w.alloc (.cells #[i_ a,i_ b,i_ c,i_ d] 3)) (.returned (s_ w.heap.size 0 4 4)) [a,b,c,d]:=
 ⟨_,rfl,n_,World.rowIs_alloc w #[i_ a,i_ b,i_ c,i_ d] 3 _ (fun i hi=>by
  match i,hi with
  | 0,_=>rfl | 1,_=>rfl | 2,_=>rfl | 3,_=>rfl | n+4,h=>exact zcc h (by simp)),r_.alloc n_ _⟩
theorem Gx (w:w_):c_ 103 #[i_ 1] w fun e w'=>eJ w w' e [11,0,0,0]:=by
 go_enter Tryz.func103,Tryz.ntmps103;go_wp2;go_ret;exact bE w 11 0 0 0
theorem Gj (w:w_):c_ 103 #[i_ 2] w fun e w'=>eJ w w' e [12,0,0,0]:=by
 go_enter Tryz.func103,Tryz.ntmps103;go_wp2;go_ret;exact bE w 12 0 0 0
theorem Fs (w:w_):c_ 103 #[i_ 3] w fun e w'=>eJ w w' e [0,0,0,0]:=by
 go_enter Tryz.func103,Tryz.ntmps103;go_wp2;go_ret;exact bE w 0 0 0 0
theorem CE (w:w_):c_ 103 #[i_ 32] w fun e w'=>eJ w w' e [0,0,0,0]:=by
 go_enter Tryz.func103,Tryz.ntmps103;go_wp2;go_ret;exact bE w 0 0 0 0
theorem Dh (w:w_):c_ 103 #[i_ 36] w fun e w'=>eJ w w' e [0,0,0,0]:=by
 go_enter Tryz.func103,Tryz.ntmps103;go_wp2;go_ret;exact bE w 0 0 0 0
theorem Hd (w:w_):c_ 103 #[i_ 4] w fun e w'=>eJ w w' e [1,7,0,0]:=by
 go_enter Tryz.func103,Tryz.ntmps103;go_wp2;go_ret;exact bE w 1 7 0 0
theorem Gq (w:w_):c_ 103 #[i_ 5] w fun e w'=>eJ w w' e [1,2,0,0]:=by
 go_enter Tryz.func103,Tryz.ntmps103;go_wp2;go_ret;exact bE w 1 2 0 0
theorem F7 (w:w_):c_ 103 #[i_ 6] w fun e w'=>eJ w w' e [1,2,0,0]:=by
 go_enter Tryz.func103,Tryz.ntmps103;go_wp2;go_ret;exact bE w 1 2 0 0
theorem Gp (w:w_):c_ 103 #[i_ 7] w fun e w'=>eJ w w' e [1,5,0,0]:=by
 go_enter Tryz.func103,Tryz.ntmps103;go_wp2;go_ret;exact bE w 1 5 0 0
theorem Ge (w:w_):c_ 103 #[i_ 8] w fun e w'=>eJ w w' e [5,2,0,0]:=by
 go_enter Tryz.func103,Tryz.ntmps103;go_wp2;go_ret;exact bE w 5 2 0 0
theorem G4 (w:w_):c_ 103 #[i_ 9] w fun e w'=>eJ w w' e [1,8,0,0]:=by
 go_enter Tryz.func103,Tryz.ntmps103;go_wp2;go_ret;exact bE w 1 8 0 0
theorem Dz (w:w_):c_ 103 #[i_ 10] w fun e w'=>eJ w w' e [8,2,0,0]:=by
 go_enter Tryz.func103,Tryz.ntmps103;go_wp2;go_ret;exact bE w 8 2 0 0
theorem Dn (w:w_):c_ 103 #[i_ 11] w fun e w'=>eJ w w' e [1,9,0,0]:=by
 go_enter Tryz.func103,Tryz.ntmps103;go_wp2;go_ret;exact bE w 1 9 0 0
theorem Dg (w:w_):c_ 103 #[i_ 12] w fun e w'=>eJ w w' e [1,0,0,0]:=by
 go_enter Tryz.func103,Tryz.ntmps103;go_wp2;go_ret;exact bE w 1 0 0 0
theorem Cy (w:w_):c_ 103 #[i_ 22] w fun e w'=>eJ w w' e [1,0,0,0]:=by
 go_enter Tryz.func103,Tryz.ntmps103;go_wp2;go_ret;exact bE w 1 0 0 0
theorem DD (w:w_):c_ 103 #[i_ 13] w fun e w'=>eJ w w' e [4,2,2,0]:=by
 go_enter Tryz.func103,Tryz.ntmps103;go_wp2;go_ret;exact bE w 4 2 2 0
theorem DI (w:w_):c_ 103 #[i_ 14] w fun e w'=>eJ w w' e [4,2,3,0]:=by
 go_enter Tryz.func103,Tryz.ntmps103;go_wp2;go_ret;exact bE w 4 2 3 0
theorem CZ (w:w_):c_ 103 #[i_ 15] w fun e w'=>eJ w w' e [1,2,2,0]:=by
 go_enter Tryz.func103,Tryz.ntmps103;go_wp2;go_ret;exact bE w 1 2 2 0
theorem DB (w:w_):c_ 103 #[i_ 16] w fun e w'=>eJ w w' e [2,2,2,0]:=by
 go_enter Tryz.func103,Tryz.ntmps103;go_wp2;go_ret;exact bE w 2 2 2 0
theorem DY (w:w_):c_ 103 #[i_ 17] w fun e w'=>eJ w w' e [1,15,2,0]:=by
 go_enter Tryz.func103,Tryz.ntmps103;go_wp2;go_ret;exact bE w 1 15 2 0
theorem Df (w:w_):c_ 103 #[i_ 18] w fun e w'=>eJ w w' e [1,16,2,2]:=by
 go_enter Tryz.func103,Tryz.ntmps103;go_wp2;go_ret;exact bE w 1 16 2 2
theorem Cw (w:w_):c_ 103 #[i_ 19] w fun e w'=>eJ w w' e [10,0,0,0]:=by
 go_enter Tryz.func103,Tryz.ntmps103;go_wp2;go_ret;exact bE w 10 0 0 0
theorem C5 (w:w_):c_ 103 #[i_ 20] w fun e w'=>eJ w w' e [2,10,0,0]:=by
 go_enter Tryz.func103,Tryz.ntmps103;go_wp2;go_ret;exact bE w 2 10 0 0
theorem Dt (w:w_):c_ 103 #[i_ 21] w fun e w'=>eJ w w' e [2,10,0,0]:=by
 go_enter Tryz.func103,Tryz.ntmps103;go_wp2;go_ret;exact bE w 2 10 0 0
theorem BU (w:w_):c_ 103 #[i_ 23] w fun e w'=>eJ w w' e [6,2,0,0]:=by
 go_enter Tryz.func103,Tryz.ntmps103;go_wp2;go_ret;exact bE w 6 2 0 0
theorem B7 (w:w_):c_ 103 #[i_ 24] w fun e w'=>eJ w w' e [6,3,0,0]:=by
 go_enter Tryz.func103,Tryz.ntmps103;go_wp2;go_ret;exact bE w 6 3 0 0
theorem BR (w:w_):c_ 103 #[i_ 25] w fun e w'=>eJ w w' e [1,3,0,0]:=by
 go_enter Tryz.func103,Tryz.ntmps103;go_wp2;go_ret;exact bE w 1 3 0 0
theorem Dy (w:w_):c_ 103 #[i_ 26] w fun e w'=>eJ w w' e [1,6,17,0]:=by
 go_enter Tryz.func103,Tryz.ntmps103;go_wp2;go_ret;exact bE w 1 6 17 0
theorem Cm (w:w_):c_ 103 #[i_ 27] w fun e w'=>eJ w w' e [1,6,0,0]:=by
 go_enter Tryz.func103,Tryz.ntmps103;go_wp2;go_ret;exact bE w 1 6 0 0
theorem Cd (w:w_):c_ 103 #[i_ 28] w fun e w'=>eJ w w' e [1,2,3,0]:=by
 go_enter Tryz.func103,Tryz.ntmps103;go_wp2;go_ret;exact bE w 1 2 3 0
theorem Dj (w:w_):c_ 103 #[i_ 29] w fun e w'=>eJ w w' e [3,0,0,0]:=by
 go_enter Tryz.func103,Tryz.ntmps103;go_wp2;go_ret;exact bE w 3 0 0 0
theorem Dl (w:w_):c_ 103 #[i_ 30] w fun e w'=>eJ w w' e [2,0,0,0]:=by
 go_enter Tryz.func103,Tryz.ntmps103;go_wp2;go_ret;exact bE w 2 0 0 0
theorem DP (w:w_):c_ 103 #[i_ 31] w fun e w'=>eJ w w' e [10,14,0,0]:=by
 go_enter Tryz.func103,Tryz.ntmps103;go_wp2;go_ret;exact bE w 10 14 0 0
theorem C4 (w:w_):c_ 103 #[i_ 33] w fun e w'=>eJ w w' e [13,0,0,0]:=by
 go_enter Tryz.func103,Tryz.ntmps103;go_wp2;go_ret;exact bE w 13 0 0 0
theorem Cu (w:w_):c_ 103 #[i_ 34] w fun e w'=>eJ w w' e [13,0,0,0]:=by
 go_enter Tryz.func103,Tryz.ntmps103;go_wp2;go_ret;exact bE w 13 0 0 0
theorem Cr (w:w_):c_ 103 #[i_ 35] w fun e w'=>eJ w w' e [2,3,0,0]:=by
 go_enter Tryz.func103,Tryz.ntmps103;go_wp2;go_ret;exact bE w 2 3 0 0
theorem DF (w:w_):c_ 103 #[i_ 37] w fun e w'=>eJ w w' e [18,0,0,0]:=by
 go_enter Tryz.func103,Tryz.ntmps103;go_wp2;go_ret;exact bE w 18 0 0 0
theorem C6 (w:w_):c_ 103 #[i_ 38] w fun e w'=>eJ w w' e [18,10,0,0]:=by
 go_enter Tryz.func103,Tryz.ntmps103;go_wp2;go_ret;exact bE w 18 10 0 0
theorem DV (w:w_):c_ 103 #[i_ 39] w fun e w'=>eJ w w' e [18,10,0,0]:=by
 go_enter Tryz.func103,Tryz.ntmps103;go_wp2;go_ret;exact bE w 18 10 0 0
theorem Cx (w:w_):c_ 103 #[i_ 40] w fun e w'=>eJ w w' e [19,0,0,0]:=by
 go_enter Tryz.func103,Tryz.ntmps103;go_wp2;go_ret;exact bE w 19 0 0 0
theorem BT (w:w_):c_ 103 #[i_ 41] w fun e w'=>eJ w w' e [20,10,1,0]:=by
 go_enter Tryz.func103,Tryz.ntmps103;go_wp2;go_ret;exact bE w 20 10 1 0
theorem Db (w:w_):c_ 103 #[i_ 42] w fun e w'=>eJ w w' e [21,0,0,0]:=by
 go_enter Tryz.func103,Tryz.ntmps103;go_wp2;go_ret;exact bE w 21 0 0 0
theorem xJ (op:Int)(w:w_)(h1:(op==1)=false)(h2:(op==2)=false)(h3:(op==3)=false)(h32:(op==32)=false)(h36:(op==36)=false)(h4:(op==4)=false)(h5:(op==5)=false)(h6:(op==6)=false)(h7:(op==7)=false)(h8:(op==8)=false)(h9:(op==9)=false)(h10:(op==10)=false)(h11:(op==11)=false)(sU:(op==12)=false)(h22:(op==22)=false)(h13:(op==13)=false)(h14:(op==14)=false)(h15:(op==15)=false)(h16:(op==16)=false)(h17:(op==17)=false)(h18:(op==18)=false)(h19:(op==19)=false)(Fp:(op==20)=false)(Fn:(op==21)=false)(h23:(op==23)=false)(h24:(op==24)=false)(h25:(op==25)=false)(h26:(op==26)=false)(h27:(op==27)=false)(h28:(op==28)=false)(v9:(op==29)=false)(RU:(op==30)=false)(Ia:(op==31)=false)(h33:(op==33)=false)(h34:(op==34)=false)(h35:(op==35)=false)(h37:(op==37)=false)(Fc:(op==38)=false)(Fd:(op==39)=false)(h40:(op==40)=false)(Fi:(op==41)=false)(h42:(op==42)=false):c_ 103 #[i_ op] w fun e w'=>e=.returned (.slice none 0 0)/\w'=w:=by
 go_enter Tryz.func103,Tryz.ntmps103;go_wp2;go_ret;exact⟨rfl,rfl⟩
theorem ij (op:Int)(w:w_):c_ 103 #[i_ op] w fun e w'=>match bh op with | none=>e=.returned (.slice none 0 0)/\w'=w | some r=>eJ w w' e r:=by
 by_cases h1:op=1;{subst h1;exact Gx w};by_cases h2:op=2;{subst h2;exact Gj w};by_cases h3:op=3;{subst h3;exact Fs w};by_cases h32:op=32;{subst h32;exact CE w};by_cases h36:op=36;{subst h36;exact Dh w};by_cases h4:op=4;{subst h4;exact Hd w};by_cases h5:op=5;{subst h5;exact Gq w};by_cases h6:op=6;{subst h6;exact F7 w};by_cases h7:op=7;{subst h7;exact Gp w};by_cases h8:op=8;{subst h8;exact Ge w};by_cases h9:op=9;{subst h9;exact G4 w};by_cases h10:op=10;{subst h10;exact Dz w};by_cases h11:op=11;{subst h11;exact Dn w};by_cases sU:op=12;{subst sU;exact Dg w};by_cases h22:op=22;{subst h22;exact Cy w};by_cases h13:op=13;{subst h13;exact DD w};by_cases h14:op=14;{subst h14;exact DI w};by_cases h15:op=15;{subst h15;exact CZ w};by_cases h16:op=16;{subst h16;exact DB w};by_cases h17:op=17;{subst h17;exact DY w};by_cases h18:op=18;{subst h18;exact Df w};by_cases h19:op=19;{subst h19;exact Cw w};by_cases Fp:op=20;{subst Fp;exact C5 w};by_cases Fn:op=21;{subst Fn;exact Dt w};by_cases h23:op=23;{subst h23;exact BU w};by_cases h24:op=24;{subst h24;exact B7 w};by_cases h25:op=25;{subst h25;exact BR w};by_cases h26:op=26;{subst h26;exact Dy w};by_cases h27:op=27;{subst h27;exact Cm w};by_cases h28:op=28;{subst h28;exact Cd w};by_cases v9:op=29;{subst v9;exact Dj w};by_cases RU:op=30;{subst RU;exact Dl w};by_cases Ia:op=31;{subst Ia;exact DP w};by_cases h33:op=33;{subst h33;exact C4 w};by_cases h34:op=34;{subst h34;exact Cu w};by_cases h35:op=35;{subst h35;exact Cr w};by_cases h37:op=37;{subst h37;exact DF w};by_cases Fc:op=38;{subst Fc;exact C6 w};by_cases Fd:op=39;{subst Fd;exact DV w};by_cases h40:op=40;{subst h40;exact Cx w};by_cases Fi:op=41;{subst Fi;exact BT w};by_cases h42:op=42;{subst h42;exact Db w};have e:bh op=none:=by{unfold bh xP;simp only[uI,h1,h2,h3,h32,h36,h4,h5,h6,h7,h8,h9,h10,h11,sU,h22,h13,h14,h15,h16,h17,h18,h19,Fp,Fn,h23,h24,h25,h26,h27,h28,v9,RU,Ia,h33,h34,h35,h37,Fc,Fd,h40,Fi,h42,if_false]};rw[e];exact xJ op w (zag.2 h1) (zag.2 h2) (zag.2 h3) (zag.2 h32) (zag.2 h36) (zag.2 h4) (zag.2 h5) (zag.2 h6) (zag.2 h7) (zag.2 h8) (zag.2 h9) (zag.2 h10) (zag.2 h11) (zag.2 sU) (zag.2 h22) (zag.2 h13) (zag.2 h14) (zag.2 h15) (zag.2 h16) (zag.2 h17) (zag.2 h18) (zag.2 h19) (zag.2 Fp) (zag.2 Fn) (zag.2 h23) (zag.2 h24) (zag.2 h25) (zag.2 h26) (zag.2 h27) (zag.2 h28) (zag.2 v9) (zag.2 RU) (zag.2 Ia) (zag.2 h33) (zag.2 h34) (zag.2 h35) (zag.2 h37) (zag.2 Fc) (zag.2 Fd) (zag.2 h40) (zag.2 Fi) (zag.2 h42)
theorem lE (op a b c d:Int)(w:w_):c_ 104 #[.agg #[i_ op,i_ a,i_ b,i_ c,i_ d]] w fun e w'=>
  ∃ k,e=.returned (s_ k 0 4 4)/\w.heap.size<=k/\w'.rowIs k 3 4 (fun j=>i_ ([a,b,c,d][j]?.getD 0))/\b_ w w':=by
 go_enter Tryz.func104,Tryz.ntmps104;go_wp2
 go_ret;have h:=World.rowIs_alloc (w.alloc (.cells #[i_ op,i_ a,i_ b,i_ c,i_ d] 51)) #[i_ a,i_ b,i_ c,i_ d] 3 (fun j=>i_ ([a,b,c,d][j]?.getD 0)) (fun i hi=>by
  match i,hi with
  | 0,_=>rfl | 1,_=>rfl | 2,_=>rfl | 3,_=>rfl | n+4,h=>exact zcc h (by simp))
 exact⟨_,rfl,by simp,by simpa using h,(r_.alloc n_ _).alloc (by simp) _⟩
theorem fC {op:Int}{r:List Nat}(h:bh op=some r)(k:Nat):r[k]?.getD 0<=21:=by
 have key:∀(t:List (Int×List Nat)),(∀ p,p∈t->∀ x,x∈p.2->x<=21)->uI op t=some r->∀ x,x∈r->x<=21:=by
  intro t
  induction t with
  | nil=>intro _ h;cases h
  | cons p t ih=>
   intro hp h;obtain⟨k,q⟩:=p;unfold uI at h;split at h;{cases h;exact hp (k,r) (List.mem_cons_self)};{exact ih (fun p hq=>hp p (List.mem_cons_of_mem _ hq)) h}
 have bK:=key xP (by decide) h;cases e:r[k]? with
 | none=>exact Nat.zero_le _
 | some x=>exact bK x (List.mem_of_getElem? e)
def dj (x:az)(k:Nat):Int:=[x.fa,x.fb,x.fc,x.fd][k]?.getD 0
def dn (n:aj)(np i:Nat):Bool:=
 match bh (n.u[i]?.getD az.z).op with
 | none=>false
 | some r=>(dh n np (dj (n.u[i]?.getD az.z) 0) (r[0]?.getD 0)&&dh n np (dj (n.u[i]?.getD az.z) 1) (r[1]?.getD 0)&&dh n np (dj (n.u[i]?.getD az.z) 2) (r[2]?.getD 0)&&dh n np (dj (n.u[i]?.getD az.z) 3) (r[3]?.getD 0)) &&
  (!(decide (i+1=n.u.length))||(n.u[i]?.getD az.z).op==19||(n.u[i]?.getD az.z).op==29||(n.u[i]?.getD az.z).op==30)
theorem JH {n:aj}{np i:Nat}{r:List Nat}(hr:bh (n.u[i]?.getD az.z).op=some r)(h:∀ k,k<4->dh n np (dj (n.u[i]?.getD az.z) k) (r[k]?.getD 0)=true) :
  dn n np i=(!(decide (i+1=n.u.length))||(n.u[i]?.getD az.z).op==19||(n.u[i]?.getD az.z).op==29||(n.u[i]?.getD az.z).op==30):=by
 unfold dn;rw[hr];simp only;rw[h 0 (by omega),h 1 (by omega),h 2 (by omega),h 3 (by omega)];simp
theorem Nq {n:aj}{np i:Nat}{r:List Nat}(hr:bh (n.u[i]?.getD az.z).op=some r){k:Nat}(hk:k<4)(h:dh n np (dj (n.u[i]?.getD az.z) k) (r[k]?.getD 0)=false):dn n np i=false:=by
 unfold dn;rw[hr];simp only;have hc:k=0\/k=1\/k=2\/k=3:=by{omega};rcases hc with rfl | rfl | rfl | rfl<;>simp[h]
structure J9 (w:w_)(a:o_)(nl c:Nat)(op:Int)(br bf:Nat)(r:List Nat)(x:az)(wr:w_):Prop where
 old:b_ w wr
 code:wr.cell? (a_ w.heap.size 0)=some (.slice a nl c)
 op:wr.cell? (a_ (w.heap.size+1) 0)=some (i_ op)
 rr:wr.rowIs br 3 4 (fun j=>i_ ((r[j]?.getD 0:Nat):Int))
 rf:wr.rowIs bf 3 4 (fun j=>i_ (dj x j))
theorem J9.below {w:w_}{a:o_}{nl c:Nat}{op:Int}{br bf:Nat}{r:List Nat}{x:az}{wr w2:w_}(h:J9 w a nl c op br bf r x wr)(hb:b_ wr w2):J9 w a nl c op br bf r x w2 where
 old:=h.old.trans (hb.mono h.old.size)
 code:=(hb.cell (p:=(a_ w.heap.size 0)) (zbd _ _ h.code)).trans h.code
 op:=(hb.cell (p:=(a_ (w.heap.size+1) 0)) (zbd _ _ h.op)).trans h.op
 rr:=h.rr.of_block (hb.block _ h.rr.lt)
 rf:=h.rf.of_block (hb.block _ h.rf.lt)
theorem Az (a:o_)(l:List aj)(c p i:Nat)(S:Nat->Prop)(w:w_)(hs:am w S a l)(hB:∀ b,S b->b<w.heap.size)(hp:p<l.length)(hi:i<(al l p).u.length)(ko:0<=(al l p).m/\(al l p).m<=250) :
  c_ 100 #[.agg #[.slice a l.length c],i_ p,i_ i] w fun e w'=>e=.returned (.bool (dn (al l p) l.length i))/\b_ w w':=by
 have hn:=hs.1;have HS:=af hs;have HB:=af hB;have xp:=af ko;obtain⟨b,off,rfl,hb,aC⟩:=hs.2 (by omega);have N:aT w S b (off+p * 9) (al l p):=aC p hp;have cY:=hB b hb;obtain⟨a7,c7,h7,H7⟩:=N.u;have jl:=H7.1;obtain⟨bi,KO,rfl,XY,yK⟩:=H7.2 (by omega);have I:=yK i hi;have hbil:=hB bi XY;clear aC yK hs hB N H7 ko;obtain⟨x,mn⟩:∃ x,x=(al l p).u[i]?.getD az.z:=⟨_,rfl⟩;have Td:=af mn;rw[<-mn]at I;clear mn;have i0:=I.op;have i1:=I.fa;have i2:=I.fb;have i3:=I.fc;have i4:=I.fd;clear I;obtain⟨ni,kn⟩:∃ ni,ni=(al l p).u.length:=⟨_,rfl⟩;have jM:=af kn;rw[<-kn]at hi h7 jl;clear kn;have Po:b_ w ((w.alloc (.cells #[s_ b off l.length c] 28)).alloc (.cells #[i_ x.op,i_ x.fa,i_ x.fb,i_ x.fc,i_ x.fd] 51)):=(r_.alloc n_ _).alloc (by simp) _;have sN:=af Po;clear Po;have RO:=af (ij x.op ((w.alloc (.cells #[s_ b off l.length c] 28)).alloc (.cells #[i_ x.op,i_ x.fa,i_ x.fb,i_ x.fc,i_ x.fd] 51)));cases hr:bh x.op with
 | none=>
  have R:H_ (false=dn (al l p) l.length i):=by show _=_;unfold dn;rw[<-Td.o,hr]
  rw[hr]at RO;clear hr;go_enter Tryz.func100,Tryz.ntmps100;go_wp2_with fail
  refine(aa RO).mono ?_;rintro e w' ⟨rfl,rfl⟩;go_wp2;go_ret;exact⟨ak (aa R),aa sN⟩
 | some r=>
  rw[hr]at RO;have HR:H_ (bh ((al l p).u[i]?.getD az.z).op=some r):=by show _=_;rw[<-Td.o];exact hr
  have Il:H_ (∀ k,r[k]?.getD 0<=21):=fun k=>fC hr k;clear hr;go_enter Tryz.func100,Tryz.ntmps100;go_wp2_with fail
  refine(aa RO).mono ?_;rintro e w1 ⟨br,rfl,ml,sm,ar⟩;have sS:b_ w w1:=(aa sN).trans (ar.mono (by simp;omega));have k0:w1.cell? (a_ w.heap.size 0)=some (s_ b off l.length c):=by{rw[ar.cell (p:=(a_ w.heap.size 0)) (by simp;omega)];simp[go_sem]};have j0:w1.cell? (a_ (w.heap.size+1) 0)=some (i_ x.op):=by{rw[ar.cell (p:=(a_ (w.heap.size+1) 0)) (by simp)];simp[go_sem]};have j1:w1.cell? (a_ (w.heap.size+1) 1)=some (i_ x.fa):=by{rw[ar.cell (p:=(a_ (w.heap.size+1) 1)) (by simp)];simp[go_sem]};have j2:w1.cell? (a_ (w.heap.size+1) 2)=some (i_ x.fb):=by{rw[ar.cell (p:=(a_ (w.heap.size+1) 2)) (by simp)];simp[go_sem]};have j3:w1.cell? (a_ (w.heap.size+1) 3)=some (i_ x.fc):=by{rw[ar.cell (p:=(a_ (w.heap.size+1) 3)) (by simp)];simp[go_sem]};have j4:w1.cell? (a_ (w.heap.size+1) 4)=some (i_ x.fd):=by{rw[ar.cell (p:=(a_ (w.heap.size+1) 4)) (by simp)];simp[go_sem]};have lz:=af sS;have rB:=af sm;clear ar sS sm ml RO;go_wp2_with fail
  refine(lE x.op x.fa x.fb x.fc x.fd w1).mono ?_;rintro e w2 ⟨bf,rfl,jz,qv,bj⟩;have W0:H_ (J9 w (some (a_ b off)) l.length c x.op br bf r x w2):=
   {old:=(aa lz).trans (bj.mono (aa lz).size)
    code:=(bj.cell (p:=(a_ w.heap.size 0)) (zbd _ _ k0)).trans k0
    op:=(bj.cell (p:=(a_ (w.heap.size+1) 0)) (zbd _ _ j0)).trans j0
    rr:=(aa rB).of_block (bj.block _ (aa rB).lt)
    rf:=qv }
  clear bj jz qv k0 j0 j1 j2 j3 j4 lz rB;go_wp2;go_loopg [30] 4 (fun g v wr=>∃(k:Nat),k+g=4/\v=i_ k/\J9 w (some (a_ b off)) l.length c x.op br bf r x wr/\H_ (∀ q,q<k->dh (al l p) l.length (dj ((al l p).u[i]?.getD az.z) q) (r[q]?.getD 0)=true));(case atStart=>exact⟨0,by omega,rfl,aa W0,fun q h=>zcc h (bW _)⟩);case round=>
   clear W0;obtain⟨k,hk,rfl,hW,dY⟩:=hrel;by_cases au:k<4
   ·have cr:=hW.rr.cell (i:=k) au;have cf:=hW.rf.cell (i:=k) au;have cc:=hW.code;have FI:H_ (∀ W:w_,b_ wr W->c_ 135 #[.agg #[s_ b off l.length c],i_ p,i_ ((r[k]?.getD 0:Nat):Int),i_ (dj x k)] W fun e w'=>e=.returned (.bool (dh (al l p) l.length (dj x k) (r[k]?.getD 0)))/\b_ W w'):=fun W dV=>
     have QA:=hW.old.trans (dV.mono hW.old.size);Cl _ l c p _ _ S W ((aa HS).keep QA (aa HB)) (fun b h=>l_ (aa HB b h) QA.size) hp (aa xp) (aa Il k)
    have OKN:H_ (dh (al l p) l.length (dj x k) (r[k]?.getD 0)=true->∀ q,q<k+1->dh (al l p) l.length (dj ((al l p).u[i]?.getD az.z) q) (r[q]?.getD 0)=true):=fun h q hq=>by{by_cases e:q=k;{subst e;rw[<-Td.o];exact h};{exact dY.o q (by omega)}};have mK:H_ (dh (al l p) l.length (dj x k) (r[k]?.getD 0)=false->false=dn (al l p) l.length i):=fun h=>(Nq HR.o au (by rw[<-Td.o];exact h)).symm;generalize dh (al l p) l.length (dj x k) (r[k]?.getD 0)=res at *;generalize dj x k=xv at *;generalize r[k]?.getD 0=rv at *;have HW:=af hW;clear hW dY;cases res;{go_wp2_with fail;go_region_with (go_at_call 135;refine(aa FI _ (by exact r_.drew)).mono ?_;rintro e w' ⟨rfl,dV⟩);(all_goals (go_wp2_with fail));(all_goals go_ret);all_goals exact⟨ak (aa mK (by first | rfl | trivial)),(aa HW).old.drew.trans (dV.mono (aa HW).old.size)⟩};{go_wp2_with fail;go_region_with (go_at_call 135;refine(aa FI _ (by exact r_.drew)).mono ?_;rintro e w' ⟨rfl,dV⟩);(all_goals (go_wp2_with fail));(all_goals go_roundg (4-(k+1)));(all_goals first | (case rel=>exact⟨k+1,by omega,by go_num,(aa HW).below (r_.drew.trans dV),aa OKN (by first | rfl | trivial)⟩) | skip);all_goals omega}
   {have gz:k=4:=by{omega};have E:H_ (dn (al l p) l.length i=(!(decide (i+1=ni))||x.op==19||x.op==29||x.op==30)):=by{have h:=JH HR.o (np:=l.length) (fun q hq=>dY.o q (by omega));rw[<-Td.o,<-jM.o]at h;exact h};have cc:=hW.code;have co:=hW.op;have ci:=(hW.old.cell (p:=(a_ b (off+p * 9+7))) cY).trans h7;have HO:=af hW.old;clear hW dY HR Il Td jM HS HB xp;generalize x.op=xo at *;by_cases hl:i+1=ni;{have hlb:((i:Int)==(ni:Int)-1)=true:=by{simp;omega};by_cases t1:xo=19;{have R:H_ (true=dn (al l p) l.length i):=by{show _=_;rw[E.o];simp[t1]};have Rd:(xo==19)=true:=by{simpa using t1};clear t1;clear E;go_wp2;go_ret;exact⟨ak (aa R),aa HO⟩};have Rd:(xo==19)=false:=by{simpa using t1};by_cases t2:xo=29;{have R:H_ (true=dn (al l p) l.length i):=by{show _=_;rw[E.o];simp[t2]};have WQ:(xo==29)=true:=by{simpa using t2};clear t1 t2;clear E;go_wp2;go_ret;exact⟨ak (aa R),aa HO⟩};have WQ:(xo==29)=false:=by{simpa using t2};by_cases t3:xo=30;{have R:H_ (true=dn (al l p) l.length i):=by{show _=_;rw[E.o];simp[t3]};have t3b:(xo==30)=true:=by{simpa using t3};clear t1 t2 t3;clear E;go_wp2;go_ret;exact⟨ak (aa R),aa HO⟩};{have R:H_ (false=dn (al l p) l.length i):=by{show _=_;rw[E.o];simp[hl,t1,t2,t3]};have t3b:(xo==30)=false:=by{simpa using t3};clear t1 t2 t3;clear E;go_wp2;go_ret;exact⟨ak (aa R),aa HO⟩}};{have hlb:((i:Int)==(ni:Int)-1)=false:=by{simp;omega};have R:H_ (true=dn (al l p) l.length i):=by{show _=_;rw[E.o];simp[hl]};clear E;go_wp2;go_ret;exact⟨ak (aa R),aa HO⟩}}
def lI (q:Nat->Bool)(f t:Nat):Bool:=(List.range' f (t-f)).all q
theorem pL {q:Nat->Bool}{f t:Nat}(h:∀ i,f<=i->i<t->q i=true):lI q f t=true:=by
 unfold lI;rw[List.all_eq_true];intro x hx;rw[List.mem_range'_1]at hx;exact h x hx.1 (by omega)
theorem oB {q:Nat->Bool}{f t i:Nat}(h1:f<=i)(h2:i<t)(h:q i=false):lI q f t=false:=by
 unfold lI;rw[List.all_eq_false];exact⟨i,by rw[List.mem_range'_1];omega,by simp[h]⟩
theorem zY {q:Nat->Bool}{f t:Nat}(h:lI q f t=true)(i:Nat)(h1:f<=i)(h2:i<t):q i=true:=by
 unfold lI at h;rw[List.all_eq_true]at h;exact h i (by rw[List.mem_range'_1];omega)
theorem ax (B:Nat)(w:w_):∀ n,Below B w (w.drewN n)
 | 0=>r_
 | n+1=>(ax B w n).drew
def mS (n:aj)(u:Bool×Int):Bool:=if u.1 then dw u.2 0 (n.m-1)else dw u.2 0 ((n.s.length:Int)-1)
def kD (n:aj)(us:List (Bool×Int)):Bool:=lI (fun i=>mS n (us[i]?.getD (false,0))) 0 us.length
theorem zv (a:o_)(l:List aj)(c p g:Nat)(S:Nat->Prop)(w:w_)(hs:am w S a l)(hB:∀ b,S b->b<w.heap.size)(hp:p<l.length)(hg:g<l.length)(ko:0<=(al l p).m/\(al l p).m<=250) :
  c_ 54 #[.agg #[.slice a l.length c],i_ p,i_ g] w fun e w'=>e=.returned (.bool (kD (al l p) (al l g).s))/\b_ w w':=by
 have hn:=hs.1;obtain⟨b,off,rfl,hb,aC⟩:=hs.2 (by omega);have NP:aT w S b (off+p * 9) (al l p):=aC p hp;have NG:aT w S b (off+g * 9) (al l g):=aC g hg;have cY:=hB b hb;obtain⟨a5,c5,h5,H5⟩:=NP.s;obtain⟨ag,cg,Yk,HG⟩:=NG.s;have pp:=NP.m;have sP:=HG.1;have ry:=H5.1;have HU:=af HG;have HB:=af hB;clear aC hs hB NP NG H5 HG;obtain⟨qK,vl⟩:=ko;have E:H_ (∀ u,mS (al l p) u=if u.1 then dw u.2 0 ((al l p).m-1)else dw u.2 0 (((al l p).s.length:Int)-1)):=fun _=>rfl;obtain⟨rg,Sj⟩:∃ rg,rg=(al l p).m:=⟨_,rfl⟩;obtain⟨nu,Zr⟩:∃ nu,nu=(al l p).s.length:=⟨_,rfl⟩;rw[<-Sj]at pp qK vl;rw[<-Zr]at h5 ry;rw[<-Sj,<-Zr]at E;clear Sj Zr;obtain⟨us,XF⟩:∃ us,us=(al l g).s:=⟨_,rfl⟩;rw[<-XF]at Yk sP HU;have HUS:H_ (us=(al l g).s):=XF;rw[<-XF];clear XF;have P0:H_ (∀ W,Below (w.heap.size+1) (w.alloc (.cells #[s_ b off l.length c] 28)) W->W.cell? (a_ w.heap.size 0)=some (s_ b off l.length c)/\b_ w W):=fun W hW=>
  ⟨by rw[hW.cell (p:=(a_ w.heap.size 0)) (by simp)];simp[go_sem],(r_.alloc n_ _).trans (hW.mono (by omega))⟩
 go_enter Tryz.func54,Tryz.ntmps54;go_wp2;go_loopg [16] us.length (fun gg i wr=>∃(k:Nat),k+gg=us.length/\i=i_ k/\Below (w.heap.size+1) (w.alloc (.cells #[s_ b off l.length c] 28)) wr/\H_ (∀ j,j<k->mS (al l p) (us[j]?.getD (false,0))=true));(case atStart=>exact⟨0,by omega,rfl,r_,fun j h=>zcc h (bW _)⟩);case round=>
  obtain⟨k,hk,rfl,hW,bK⟩:=hrel;obtain⟨cc,ar⟩:=aa P0 wr hW;by_cases au:k<us.length
  ·obtain⟨bu,act,rfl,hbu,aC⟩:=((aa HU).keep ar (aa HB)).2 (by omega);obtain⟨u0,u1⟩:=aC k au;clear aC;have ei:bu<wr.heap.size:=l_ (aa HB bu hbu) ar.size;have hcw:w.heap.size<wr.heap.size:=by have:=hW.size;simp at this;omega
   have Tx:b<wr.heap.size:=l_ cY ar.size;have creg:=(ar.cell (p:=(a_ b (off+p * 9+4))) cY).trans pp;have cups:=(ar.cell (p:=(a_ b (off+p * 9+5))) cY).trans h5;have dQ:H_ (∀ o n,Below (w.heap.size+1) (w.alloc (.cells #[s_ b off l.length c] 28)) ((wr.alloc o).drewN n)):=fun o n=>(hW.alloc (by omega) o).trans (ax _ _ n);obtain⟨⟨BF,ix⟩,hu⟩:∃ u,us[k]?.getD (false,0)=u:=⟨_,rfl⟩;have hu1:(us[k]?.getD (false,0)).1=BF:=by rw[hu]
   have UG:(us[k]?.getD (false,0)).2=ix:=by{rw[hu]};rw[hu1]at u0;rw[UG]at u1;have LR:=aa E (BF,ix);clear hu1 UG hW ar;cases hq:mS (al l p) (BF,ix);{have HF:H_ (kD (al l p) us=false):=oB (Nat.zero_le _) au (by rw[hu];exact hq);rw[hq]at LR;clear hu bK hq;cases BF;{have Fe:dw ix 0 ((nu:Int)-1)=false:=LR.symm;have HQ:H_ (∀ W:w_,c_ 101 #[i_ ix,i_ 0,i_ ((nu:Int)-1)] W fun e w'=>e=.returned (.bool false)/\w'=W):=fun W=>(aB _ _ _ W).mono (by rintro e w' ⟨rfl,rfl⟩;exact⟨ak Fe,rfl⟩);clear Fe LR;go_wp2_with fail;go_quiet (first | (go_at_call 101;refine Calls.quiet_of_same (aa HQ _)));go_wp2;go_ret;exact⟨ak HF.o.symm,(aa P0 _ (aa dQ _ _)).2⟩};{have Fe:dw ix 0 (rg-1)=false:=LR.symm;have HQ:H_ (∀ W:w_,c_ 101 #[i_ ix,i_ 0,i_ (rg-1)] W fun e w'=>e=.returned (.bool false)/\w'=W):=fun W=>(aB _ _ _ W).mono (by rintro e w' ⟨rfl,rfl⟩;exact⟨ak Fe,rfl⟩);clear Fe LR;go_wp2_with fail;go_quiet (first | (go_at_call 101;refine Calls.quiet_of_same (aa HQ _)));go_wp2;go_ret;exact⟨ak HF.o.symm,(aa P0 _ (aa dQ _ _)).2⟩}};{have HT:H_ (∀ j,j<k+1->mS (al l p) (us[j]?.getD (false,0))=true):=fun j hj=>by{by_cases e:j=k;{subst e;rw[hu];exact hq};{exact bK.o j (by omega)}};rw[hq]at LR;clear hu bK hq;cases BF;{have Fe:dw ix 0 ((nu:Int)-1)=true:=LR.symm;have HQ:H_ (∀ W:w_,c_ 101 #[i_ ix,i_ 0,i_ ((nu:Int)-1)] W fun e w'=>e=.returned (.bool true)/\w'=W):=fun W=>(aB _ _ _ W).mono (by rintro e w' ⟨rfl,rfl⟩;exact⟨ak Fe,rfl⟩);clear Fe LR;go_wp2_with fail;go_quiet (first | (go_at_call 101;refine Calls.quiet_of_same (aa HQ _)));go_wp2;go_roundg (us.length-(k+1));(case measure=>omega);case rel=>exact⟨k+1,by omega,by go_num,aa dQ _ _,HT⟩};{have Fe:dw ix 0 (rg-1)=true:=LR.symm;have HQ:H_ (∀ W:w_,c_ 101 #[i_ ix,i_ 0,i_ (rg-1)] W fun e w'=>e=.returned (.bool true)/\w'=W):=fun W=>(aB _ _ _ W).mono (by rintro e w' ⟨rfl,rfl⟩;exact⟨ak Fe,rfl⟩);clear Fe LR;go_wp2_with fail;go_quiet (first | (go_at_call 101;refine Calls.quiet_of_same (aa HQ _)));go_wp2;go_roundg (us.length-(k+1));(case measure=>omega);case rel=>exact⟨k+1,by omega,by go_num,aa dQ _ _,HT⟩}}
  {have HF:H_ (kD (al l p) us=true):=pL (fun j _ h2=>bK.o j (by omega));go_wp2;go_ret;exact⟨ak HF.o.symm,ar⟩}
def cI (x:Nat):Bool:=FloatKind.f64.format.order x 0==some Ordering.eq
def aY (s:ByteArray):Bool:=s.toList.isEmpty
def eF (n:cN)(bn bf bs br:Bool):Bool:=(bn||n.num==0)&&(bf||cI n.flt)&&(bs||aY n.str)&&(br||n.ref==0)
theorem fN (kind num:Int)(flt:Nat)(str:ByteArray)(ref:Int)(bn bf bs br:Bool)(w:w_) :
    c_ 151 #[.agg #[i_ kind,i_ num,.float .f64 flt,.string str,i_ ref],.bool bn,.bool bf,.bool bs,.bool br] w fun e w'=>e=.returned (.bool (eF ⟨kind,num,flt,str,ref⟩ bn bf bs br))/\b_ w w':=by
  have dD:∀ o,b_ w (w.alloc o):=fun o=>r_.alloc n_ o;simp only[eF,cI,aY];cases bn<;>cases bf<;>cases bs<;>cases br<;>
  (go_enter Tryz.func151,Tryz.ntmps151
   go_wp2_with fail
   all_goals
     go_ret;exact⟨by simp[*],dD _⟩)
end Go.Proofs.YtcjfjflljdojlaaGreatDoor

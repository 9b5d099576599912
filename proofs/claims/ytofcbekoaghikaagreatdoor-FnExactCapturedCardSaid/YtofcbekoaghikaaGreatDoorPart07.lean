import Derived.Test.YtofcbekoaghikaaGreatDoorPart05
set_option linter.unusedSimpArgs false
set_option linter.unusedVariables false
set_option maxHeartbeats 2000000
set_option maxRecDepth 100000
namespace Go.Proofs.YtofcbekoaghikaaGreatDoor
open Go.RowKit
attribute [local go_sem] run_store_float
theorem st9 (a:Option Addr)(ns:List NodeD)(c p:Nat)(S:Nat->Prop)(w:World)(hs:NodesAt w S a ns)(hB:∀ b,S b->b<w.heap.size)(hp:p<ns.length)(hkl:(nd ns p).kids.length<=200)(hk:(nd ns p).kind=9) :
  Calls Tryz.prog 61 #[.slice a ns.length c,.int .i64 p] w fun e w'=>e=.returned (.bool (sStatement ns p))/\Below w.heap.size w w':=by
 have hbA:∀ o,Below w.heap.size w (w.alloc o):=fun o=>(Below.refl _ _).alloc (Nat.le_refl _) o;have E:sStatement ns p=stArm ns p (nd ns p) (nd ns p).kids.length (nd ns p).refs.length 9:=by rw[sStatement,hk]
 have hn:=hs.1;obtain⟨b,off,ea,hb,hcc⟩:=hs.2 (by omega);have N:NodeCells w S b (off+p * 8) (nd ns p):=hcc p hp;clear hcc;generalize nd ns p=n at *;obtain⟨kind,line,op,num,flt,str,refs,kids⟩:=n;obtain⟨ra,rc,hr,hrI⟩:=N.refs;obtain⟨ka,kc,hkk,hkI⟩:=N.kids;have c0:=N.kind;have c1:=N.line;have c2:=N.op;have c3:=N.num;have c4:=N.flt;have c5:=N.str;have hss:=N.strs;have hrl:=hrI.1;simp only[stArm,sBare]at E;dsimp only at E hk hkl hr hrl hkk c0 c1 c2 c3 c4 c5 hss;clear N hrI hkI;subst hk;generalize kids.length=kl at *;generalize refs.length=rl at *;subst ea;have hK:(0:Int)<=kl:=by omega
 have hK2:(kl:Int)<=200:=by omega
 have HE:=hide E;clear E;have HS:=hide hs;have HB:=hide hB;clear hs hB;go_enter Tryz.func61,Tryz.ntmps61;go_wp2_with (first
  | (go_at_call 77;refine(l3kid_from w _ (unhide HS) (unhide HB) hp _ (by omega) (by omega) (by exact hbA _)).mono ?_;rintro e w' ⟨rfl,rfl⟩)
  | (go_at_call 79;refine(l3exprs_from w _ (unhide HS) (unhide HB) hp _ _ (by omega) (by omega) (by omega) (by first | exact hbA _ | exact(hbA _).trans (hb'.mono (by simp)))).mono ?_;rintro e w' ⟨rfl,rfl⟩)
  | (go_at_call 81;refine(l3many_any _ _).mono ?_;rintro e w' ⟨rfl,rfl⟩)
  | (go_at_call 78;refine(l3bare_any _ _ _ _ _ _ _ _ _ _ _ _ _ _ _ _ _ _).mono ?_;rintro e w' ⟨rfl,hb'⟩))
 all_goals
  go_ret;have E:=unhide HE;refine⟨ret_bool ?_,?_⟩
  ·rw[E];first | (simp[*];done) | (simp[*]<;>omega)
  ·first | exact hbA _ | exact(hbA _).trans (hb'.mono (by simp))
theorem st10 (a:Option Addr)(ns:List NodeD)(c p:Nat)(S:Nat->Prop)(w:World)(hs:NodesAt w S a ns)(hB:∀ b,S b->b<w.heap.size)(hp:p<ns.length)(hkl:(nd ns p).kids.length<=200)(hk:(nd ns p).kind=10) :
  Calls Tryz.prog 61 #[.slice a ns.length c,.int .i64 p] w fun e w'=>e=.returned (.bool (sStatement ns p))/\Below w.heap.size w w':=by
 have hbA:∀ o,Below w.heap.size w (w.alloc o):=fun o=>(Below.refl _ _).alloc (Nat.le_refl _) o;have E:sStatement ns p=stArm ns p (nd ns p) (nd ns p).kids.length (nd ns p).refs.length 10:=by rw[sStatement,hk]
 have hn:=hs.1;obtain⟨b,off,ea,hb,hcc⟩:=hs.2 (by omega);have N:NodeCells w S b (off+p * 8) (nd ns p):=hcc p hp;clear hcc;generalize nd ns p=n at *;obtain⟨kind,line,op,num,flt,str,refs,kids⟩:=n;obtain⟨ra,rc,hr,hrI⟩:=N.refs;obtain⟨ka,kc,hkk,hkI⟩:=N.kids;have c0:=N.kind;have c1:=N.line;have c2:=N.op;have c3:=N.num;have c4:=N.flt;have c5:=N.str;have hss:=N.strs;have hrl:=hrI.1;simp only[stArm,sBare]at E;dsimp only at E hk hkl hr hrl hkk c0 c1 c2 c3 c4 c5 hss;clear N hrI hkI;subst hk;generalize kids.length=kl at *;generalize refs.length=rl at *;subst ea;have hK:(0:Int)<=kl:=by omega
 have hK2:(kl:Int)<=200:=by omega
 have HE:=hide E;clear E;have HS:=hide hs;have HB:=hide hB;clear hs hB;go_enter Tryz.func61,Tryz.ntmps61;go_wp2_with (first
  | (go_at_call 77;refine(l3kid_from w _ (unhide HS) (unhide HB) hp _ (by omega) (by omega) (by exact hbA _)).mono ?_;rintro e w' ⟨rfl,rfl⟩)
  | (go_at_call 79;refine(l3exprs_from w _ (unhide HS) (unhide HB) hp _ _ (by omega) (by omega) (by omega) (by first | exact hbA _ | exact(hbA _).trans (hb'.mono (by simp)))).mono ?_;rintro e w' ⟨rfl,rfl⟩)
  | (go_at_call 81;refine(l3many_any _ _).mono ?_;rintro e w' ⟨rfl,rfl⟩)
  | (go_at_call 78;refine(l3bare_any _ _ _ _ _ _ _ _ _ _ _ _ _ _ _ _ _ _).mono ?_;rintro e w' ⟨rfl,hb'⟩))
 all_goals
  go_ret;have E:=unhide HE;refine⟨ret_bool ?_,?_⟩
  ·rw[E];first | (simp[*];done) | (simp[*]<;>omega)
  ·first | exact hbA _ | exact(hbA _).trans (hb'.mono (by simp))
theorem st11 (a:Option Addr)(ns:List NodeD)(c p:Nat)(S:Nat->Prop)(w:World)(hs:NodesAt w S a ns)(hB:∀ b,S b->b<w.heap.size)(hp:p<ns.length)(hkl:(nd ns p).kids.length<=200)(hk:(nd ns p).kind=11) :
  Calls Tryz.prog 61 #[.slice a ns.length c,.int .i64 p] w fun e w'=>e=.returned (.bool (sStatement ns p))/\Below w.heap.size w w':=by
 have hbA:∀ o,Below w.heap.size w (w.alloc o):=fun o=>(Below.refl _ _).alloc (Nat.le_refl _) o;have E:sStatement ns p=stArm ns p (nd ns p) (nd ns p).kids.length (nd ns p).refs.length 11:=by rw[sStatement,hk]
 have hn:=hs.1;obtain⟨b,off,ea,hb,hcc⟩:=hs.2 (by omega);have N:NodeCells w S b (off+p * 8) (nd ns p):=hcc p hp;clear hcc;generalize nd ns p=n at *;obtain⟨kind,line,op,num,flt,str,refs,kids⟩:=n;obtain⟨ra,rc,hr,hrI⟩:=N.refs;obtain⟨ka,kc,hkk,hkI⟩:=N.kids;have c0:=N.kind;have c1:=N.line;have c2:=N.op;have c3:=N.num;have c4:=N.flt;have c5:=N.str;have hss:=N.strs;have hrl:=hrI.1;simp only[stArm,sBare]at E;dsimp only at E hk hkl hr hrl hkk c0 c1 c2 c3 c4 c5 hss;clear N hrI hkI;subst hk;generalize kids.length=kl at *;generalize refs.length=rl at *;subst ea;have hK:(0:Int)<=kl:=by omega
 have hK2:(kl:Int)<=200:=by omega
 have HE:=hide E;clear E;have HS:=hide hs;have HB:=hide hB;clear hs hB;go_enter Tryz.func61,Tryz.ntmps61;go_wp2_with (first
  | (go_at_call 77;refine(l3kid_from w _ (unhide HS) (unhide HB) hp _ (by omega) (by omega) (by exact hbA _)).mono ?_;rintro e w' ⟨rfl,rfl⟩)
  | (go_at_call 79;refine(l3exprs_from w _ (unhide HS) (unhide HB) hp _ _ (by omega) (by omega) (by omega) (by first | exact hbA _ | exact(hbA _).trans (hb'.mono (by simp)))).mono ?_;rintro e w' ⟨rfl,rfl⟩)
  | (go_at_call 81;refine(l3many_any _ _).mono ?_;rintro e w' ⟨rfl,rfl⟩)
  | (go_at_call 78;refine(l3bare_any _ _ _ _ _ _ _ _ _ _ _ _ _ _ _ _ _ _).mono ?_;rintro e w' ⟨rfl,hb'⟩))
 all_goals
  go_ret;have E:=unhide HE;refine⟨ret_bool ?_,?_⟩
  ·rw[E];first | (simp[*];done) | (simp[*]<;>omega)
  ·first | exact hbA _ | exact(hbA _).trans (hb'.mono (by simp))
theorem st12 (a:Option Addr)(ns:List NodeD)(c p:Nat)(S:Nat->Prop)(w:World)(hs:NodesAt w S a ns)(hB:∀ b,S b->b<w.heap.size)(hp:p<ns.length)(hkl:(nd ns p).kids.length<=200)(hk:(nd ns p).kind=12) :
  Calls Tryz.prog 61 #[.slice a ns.length c,.int .i64 p] w fun e w'=>e=.returned (.bool (sStatement ns p))/\Below w.heap.size w w':=by
 have hbA:∀ o,Below w.heap.size w (w.alloc o):=fun o=>(Below.refl _ _).alloc (Nat.le_refl _) o;have E:sStatement ns p=stArm ns p (nd ns p) (nd ns p).kids.length (nd ns p).refs.length 12:=by rw[sStatement,hk]
 have hn:=hs.1;obtain⟨b,off,ea,hb,hcc⟩:=hs.2 (by omega);have N:NodeCells w S b (off+p * 8) (nd ns p):=hcc p hp;clear hcc;generalize nd ns p=n at *;obtain⟨kind,line,op,num,flt,str,refs,kids⟩:=n;obtain⟨ra,rc,hr,hrI⟩:=N.refs;obtain⟨ka,kc,hkk,hkI⟩:=N.kids;have c0:=N.kind;have c1:=N.line;have c2:=N.op;have c3:=N.num;have c4:=N.flt;have c5:=N.str;have hss:=N.strs;have hrl:=hrI.1;simp only[stArm,sBlock,sBare]at E;dsimp only at E hk hkl hr hrl hkk c0 c1 c2 c3 c4 c5 hss;clear N hrI hkI;subst hk;generalize kids.length=kl at *;generalize refs.length=rl at *;subst ea;have hK:(0:Int)<=kl:=by omega
 have hK2:(kl:Int)<=200:=by omega
 have HE:=hide E;clear E;have HS:=hide hs;have HB:=hide hB;clear hs hB;go_enter Tryz.func61,Tryz.ntmps61;go_wp2_with (first
  | (go_at_call 77;refine(l3kid_from w _ (unhide HS) (unhide HB) hp _ (by omega) (by omega) (by exact hbA _)).mono ?_;rintro e w' ⟨rfl,rfl⟩)
  | (go_at_call 79;refine(l3exprs_from w _ (unhide HS) (unhide HB) hp _ _ (by omega) (by omega) (by omega) (by first | exact hbA _ | exact(hbA _).trans (hb'.mono (by simp)))).mono ?_;rintro e w' ⟨rfl,rfl⟩)
  | (go_at_call 81;refine(l3many_any _ _).mono ?_;rintro e w' ⟨rfl,rfl⟩)
  | (go_at_call 78;refine(l3bare_any _ _ _ _ _ _ _ _ _ _ _ _ _ _ _ _ _ _).mono ?_;rintro e w' ⟨rfl,hb'⟩))
 all_goals
  go_ret;have E:=unhide HE;refine⟨ret_bool ?_,?_⟩
  ·rw[E];first | (simp[*];done) | (simp[*]<;>omega)
  ·first | exact hbA _ | exact(hbA _).trans (hb'.mono (by simp))
theorem st13 (a:Option Addr)(ns:List NodeD)(c p:Nat)(S:Nat->Prop)(w:World)(hs:NodesAt w S a ns)(hB:∀ b,S b->b<w.heap.size)(hp:p<ns.length)(hkl:(nd ns p).kids.length<=200)(hk:(nd ns p).kind=13) :
  Calls Tryz.prog 61 #[.slice a ns.length c,.int .i64 p] w fun e w'=>e=.returned (.bool (sStatement ns p))/\Below w.heap.size w w':=by
 have hbA:∀ o,Below w.heap.size w (w.alloc o):=fun o=>(Below.refl _ _).alloc (Nat.le_refl _) o;have E:sStatement ns p=stArm ns p (nd ns p) (nd ns p).kids.length (nd ns p).refs.length 13:=by rw[sStatement,hk]
 have hn:=hs.1;obtain⟨b,off,ea,hb,hcc⟩:=hs.2 (by omega);have N:NodeCells w S b (off+p * 8) (nd ns p):=hcc p hp;clear hcc;generalize nd ns p=n at *;obtain⟨kind,line,op,num,flt,str,refs,kids⟩:=n;obtain⟨ra,rc,hr,hrI⟩:=N.refs;obtain⟨ka,kc,hkk,hkI⟩:=N.kids;have c0:=N.kind;have c1:=N.line;have c2:=N.op;have c3:=N.num;have c4:=N.flt;have c5:=N.str;have hss:=N.strs;have hrl:=hrI.1;simp only[stArm,sBare]at E;dsimp only at E hk hkl hr hrl hkk c0 c1 c2 c3 c4 c5 hss;clear N hrI hkI;subst hk;generalize kids.length=kl at *;generalize refs.length=rl at *;subst ea;have hK:(0:Int)<=kl:=by omega
 have hK2:(kl:Int)<=200:=by omega
 have HE:=hide E;clear E;have HS:=hide hs;have HB:=hide hB;clear hs hB;go_enter Tryz.func61,Tryz.ntmps61;go_wp2_with (first
  | (go_at_call 77;refine(l3kid_from w _ (unhide HS) (unhide HB) hp _ (by omega) (by omega) (by exact hbA _)).mono ?_;rintro e w' ⟨rfl,rfl⟩)
  | (go_at_call 79;refine(l3exprs_from w _ (unhide HS) (unhide HB) hp _ _ (by omega) (by omega) (by omega) (by first | exact hbA _ | exact(hbA _).trans (hb'.mono (by simp)))).mono ?_;rintro e w' ⟨rfl,rfl⟩)
  | (go_at_call 81;refine(l3many_any _ _).mono ?_;rintro e w' ⟨rfl,rfl⟩)
  | (go_at_call 78;refine(l3bare_any _ _ _ _ _ _ _ _ _ _ _ _ _ _ _ _ _ _).mono ?_;rintro e w' ⟨rfl,hb'⟩))
 all_goals
  go_ret;have E:=unhide HE;refine⟨ret_bool ?_,?_⟩
  ·rw[E];first | (simp[*];done) | (simp[*]<;>omega)
  ·first | exact hbA _ | exact(hbA _).trans (hb'.mono (by simp))
theorem st14 (a:Option Addr)(ns:List NodeD)(c p:Nat)(S:Nat->Prop)(w:World)(hs:NodesAt w S a ns)(hB:∀ b,S b->b<w.heap.size)(hp:p<ns.length)(hkl:(nd ns p).kids.length<=200)(hk:(nd ns p).kind=14) :
  Calls Tryz.prog 61 #[.slice a ns.length c,.int .i64 p] w fun e w'=>e=.returned (.bool (sStatement ns p))/\Below w.heap.size w w':=by
 have hbA:∀ o,Below w.heap.size w (w.alloc o):=fun o=>(Below.refl _ _).alloc (Nat.le_refl _) o;have E:sStatement ns p=stArm ns p (nd ns p) (nd ns p).kids.length (nd ns p).refs.length 14:=by rw[sStatement,hk]
 have hn:=hs.1;obtain⟨b,off,ea,hb,hcc⟩:=hs.2 (by omega);have N:NodeCells w S b (off+p * 8) (nd ns p):=hcc p hp;clear hcc;generalize nd ns p=n at *;obtain⟨kind,line,op,num,flt,str,refs,kids⟩:=n;obtain⟨ra,rc,hr,hrI⟩:=N.refs;obtain⟨ka,kc,hkk,hkI⟩:=N.kids;have c0:=N.kind;have c1:=N.line;have c2:=N.op;have c3:=N.num;have c4:=N.flt;have c5:=N.str;have hss:=N.strs;have hrl:=hrI.1;simp only[stArm,sBare]at E;dsimp only at E hk hkl hr hrl hkk c0 c1 c2 c3 c4 c5 hss;clear N hrI hkI;subst hk;generalize kids.length=kl at *;generalize refs.length=rl at *;subst ea;have hK:(0:Int)<=kl:=by omega
 have hK2:(kl:Int)<=200:=by omega
 have HE:=hide E;clear E;have HS:=hide hs;have HB:=hide hB;clear hs hB;go_enter Tryz.func61,Tryz.ntmps61;go_wp2_with (first
  | (go_at_call 77;refine(l3kid_from w _ (unhide HS) (unhide HB) hp _ (by omega) (by omega) (by exact hbA _)).mono ?_;rintro e w' ⟨rfl,rfl⟩)
  | (go_at_call 79;refine(l3exprs_from w _ (unhide HS) (unhide HB) hp _ _ (by omega) (by omega) (by omega) (by first | exact hbA _ | exact(hbA _).trans (hb'.mono (by simp)))).mono ?_;rintro e w' ⟨rfl,rfl⟩)
  | (go_at_call 81;refine(l3many_any _ _).mono ?_;rintro e w' ⟨rfl,rfl⟩)
  | (go_at_call 78;refine(l3bare_any _ _ _ _ _ _ _ _ _ _ _ _ _ _ _ _ _ _).mono ?_;rintro e w' ⟨rfl,hb'⟩))
 all_goals
  go_ret;have E:=unhide HE;refine⟨ret_bool ?_,?_⟩
  ·rw[E];first | (simp[*];done) | (simp[*]<;>omega)
  ·first | exact hbA _ | exact(hbA _).trans (hb'.mono (by simp))
attribute [local go_sem] run_store_float
theorem st1 (a:Option Addr)(ns:List NodeD)(c p:Nat)(S:Nat->Prop)(w:World)(hs:NodesAt w S a ns)(hB:∀ b,S b->b<w.heap.size)(hp:p<ns.length)(hkl:(nd ns p).kids.length<=200)(hk:(nd ns p).kind=1) :
  Calls Tryz.prog 61 #[.slice a ns.length c,.int .i64 p] w fun e w'=>e=.returned (.bool (sStatement ns p))/\Below w.heap.size w w':=by
 have hbA:∀ o,Below w.heap.size w (w.alloc o):=fun o=>(Below.refl _ _).alloc (Nat.le_refl _) o;have E:sStatement ns p=stArm ns p (nd ns p) (nd ns p).kids.length (nd ns p).refs.length 1:=by rw[sStatement,hk]
 have hn:=hs.1;obtain⟨b,off,ea,hb,hcc⟩:=hs.2 (by omega);have N:NodeCells w S b (off+p * 8) (nd ns p):=hcc p hp;clear hcc;generalize nd ns p=n at *;obtain⟨kind,line,op,num,flt,str,refs,kids⟩:=n;obtain⟨ra,rc,hr,hrI⟩:=N.refs;obtain⟨ka,kc,hkk,hkI⟩:=N.kids;have c0:=N.kind;have c1:=N.line;have c2:=N.op;have c3:=N.num;have c4:=N.flt;have c5:=N.str;have hss:=N.strs;have hrl:=hrI.1;simp only[stArm,sBare,allStats]at E;dsimp only at E hk hkl hr hrl hkk c0 c1 c2 c3 c4 c5 hss;clear N hrI hkI;subst hk;rw[Int.toNat_natCast]at E;generalize kids.length=kl at *;generalize refs.length=rl at *;subst ea;have hK:(0:Int)<=kl:=by omega
 have hK2:(kl:Int)<=200:=by omega
 have HE:=hide E;clear E;have HS:=hide hs;have HB:=hide hB;clear hs hB;go_enter Tryz.func61,Tryz.ntmps61;go_wp2_with (first
  | (go_at_call 77;refine(l3kid_from w _ (unhide HS) (unhide HB) hp _ (by omega) (by omega) (by exact hbA _)).mono ?_;rintro e w' ⟨rfl,rfl⟩))
 all_goals
  go_loop [37] (fun i=>∃(k:Nat),k<=kl/\i=.int .i64 k/\Hid (∀ j,0<=j->j<k->isStat (sKid ns p j)=true)) (fun i=>kl-(intOf i).toNat)
  case atStart=>exact⟨0,by omega,rfl,fun j h1 h2=>absurd h2 (Nat.not_lt_zero _)⟩
  case round=>
   obtain⟨k,hk,rfl,hall⟩:=hrel;by_cases hlt:k<kl
   ·cases hq:isStat (sKid ns p k)
    ·have HQ:=hide hq;clear hq;go_wp2_with fail
     refine(l3kid_from w _ (unhide HS) (unhide HB) hp _ (by omega) (by omega) (by exact hbA _)).mono ?_;rintro e w' ⟨rfl,rfl⟩;rw[show sKidI ns p (k:Int)=sKid ns p k from rfl];go_wp2_with fail
     refine(l3stat_any _ _).mono ?_;rintro e w' ⟨rfl,rfl⟩;rw[unhide HQ];go_wp2_with fail
     go_ret;have E:=unhide HE;exact⟨ret_bool (by rw[E,allFrom_false (Nat.zero_le k) hlt (unhide HQ)];rfl),hbA _⟩
    ·have HQ:=hide hq;clear hq;go_wp2_with fail
     refine(l3kid_from w _ (unhide HS) (unhide HB) hp _ (by omega) (by omega) (by exact hbA _)).mono ?_;rintro e w' ⟨rfl,rfl⟩;rw[show sKidI ns p (k:Int)=sKid ns p k from rfl];go_wp2_with fail
     refine(l3stat_any _ _).mono ?_;rintro e w' ⟨rfl,rfl⟩;rw[unhide HQ];go_wp2_with fail
     go_round
     case rel=>
      refine⟨k+1,by omega,by go_num,fun j h1 h2=>?_⟩;by_cases e:j=k
      ·subst e;exact unhide HQ
      ·exact hall.out j h1 (by omega)
     case measure=>simp[intOf];omega
   ·go_wp2_with fail
    refine(l3bare_any _ _ _ _ _ _ _ _ _ _ _ _ _ _ _ _ _ _).mono ?_;rintro e w' ⟨rfl,hb'⟩;go_wp2_with fail
    go_ret;have E:=unhide HE;exact⟨ret_bool (by rw[E,allFrom_true (fun j h1 h2=>hall.out j h1 (by omega)),Bool.true_and]),(hbA _).trans (hb'.mono (by simp))⟩
theorem st3 (a:Option Addr)(ns:List NodeD)(c p:Nat)(S:Nat->Prop)(w:World)(hs:NodesAt w S a ns)(hB:∀ b,S b->b<w.heap.size)(hp:p<ns.length)(hkl:(nd ns p).kids.length<=200)(hk:(nd ns p).kind=3) :
  Calls Tryz.prog 61 #[.slice a ns.length c,.int .i64 p] w fun e w'=>e=.returned (.bool (sStatement ns p))/\Below w.heap.size w w':=by
 have hbA:∀ o,Below w.heap.size w (w.alloc o):=fun o=>(Below.refl _ _).alloc (Nat.le_refl _) o;have E:sStatement ns p=stArm ns p (nd ns p) (nd ns p).kids.length (nd ns p).refs.length 3:=by rw[sStatement,hk]
 have hn:=hs.1;obtain⟨b,off,ea,hb,hcc⟩:=hs.2 (by omega);have N:NodeCells w S b (off+p * 8) (nd ns p):=hcc p hp;clear hcc;generalize nd ns p=n at *;obtain⟨kind,line,op,num,flt,str,refs,kids⟩:=n;obtain⟨ra,rc,hr,hrI⟩:=N.refs;obtain⟨ka,kc,hkk,hkI⟩:=N.kids;have c0:=N.kind;have c1:=N.line;have c2:=N.op;have c3:=N.num;have c4:=N.flt;have c5:=N.str;have hss:=N.strs;have hrl:=hrI.1;simp only[stArm,sBare,allTargets]at E;dsimp only at E hk hkl hr hrl hkk c0 c1 c2 c3 c4 c5 hss;clear N hrI hkI;subst hk;generalize kids.length=kl at *;generalize refs.length=rl at *;subst ea;have hK:(0:Int)<=kl:=by omega
 have hK2:(kl:Int)<=200:=by omega
 by_cases q1:num<1
 ·have E2:Hid (sStatement ns p=false):=by show _=_;rw[E];simp[q1]
  clear E;have HS:=hide hs;have HB:=hide hB;clear hs hB;go_enter Tryz.func61,Tryz.ntmps61;go_wp2_with (first
   | (go_at_call 77;refine(l3kid_from w _ (unhide HS) (unhide HB) hp _ (by omega) (by omega) (by exact hbA _)).mono ?_;rintro e w' ⟨rfl,rfl⟩))
  all_goals
   go_ret;exact⟨ret_bool (unhide E2).symm,hbA _⟩
 by_cases q2:(kl:Int)<=num
 ·have E2:Hid (sStatement ns p=false):=by show _=_;rw[E];simp[q2]
  clear E;have HS:=hide hs;have HB:=hide hB;clear hs hB;go_enter Tryz.func61,Tryz.ntmps61;go_wp2_with (first
   | (go_at_call 77;refine(l3kid_from w _ (unhide HS) (unhide HB) hp _ (by omega) (by omega) (by exact hbA _)).mono ?_;rintro e w' ⟨rfl,rfl⟩))
  all_goals
   go_ret;exact⟨ret_bool (unhide E2).symm,hbA _⟩
 obtain⟨m,rfl⟩:=Int.eq_ofNat_of_zero_le (show 0<=num by omega);have E2:sStatement ns p=(allFrom (fun i=>isTarget (sKid ns p i)) 0 m&&(sBareV op m flt str rl false true false false 0&&sExprsI ns p m kl)):=by
  rw[E,Int.toNat_natCast];simp[q1,q2]
 have hm1:(1:Int)<=m:=by omega
 have hm2:(m:Int)<kl:=by omega
 have hkpos:(0:Int)<kl:=by omega
 have hd1:decide ((m:Int)<1)=false:=by simp;omega
 have hd2:decide (kl<=m)=false:=by simp;omega
 have hd3:decide ((0:Int)<kl)=true:=by simp;omega
 clear E q1 q2;have HE:=hide E2;clear E2;have HS:=hide hs;have HB:=hide hB;clear hs hB;go_enter Tryz.func61,Tryz.ntmps61;go_wp2_with (first
  | (go_at_call 77;refine(l3kid_from w _ (unhide HS) (unhide HB) hp _ (by omega) (by omega) (by exact hbA _)).mono ?_;rintro e w' ⟨rfl,rfl⟩))
 go_loop [9] (fun i=>∃(k:Nat),k<=m/\i=.int .i64 k/\Hid (∀ j,0<=j->j<k->isTarget (sKid ns p j)=true)) (fun i=>m-(intOf i).toNat)
 case atStart=>exact⟨0,by omega,rfl,fun j h1 h2=>absurd h2 (Nat.not_lt_zero _)⟩
 case round=>
  obtain⟨k,hk,rfl,hall⟩:=hrel;by_cases hlt:k<m
  ·cases hq:isTarget (sKid ns p k)
   ·have HQ:=hide hq;clear hq;go_wp2_with fail
    refine(l3kid_from w _ (unhide HS) (unhide HB) hp _ (by omega) (by omega) (by exact hbA _)).mono ?_;rintro e w' ⟨rfl,rfl⟩;rw[show sKidI ns p (k:Int)=sKid ns p k from rfl];go_wp2_with fail
    refine(l3target_any _ _).mono ?_;rintro e w' ⟨rfl,rfl⟩;rw[unhide HQ];go_wp2_with fail
    go_ret;have E:=unhide HE;exact⟨ret_bool (by rw[E,allFrom_false (Nat.zero_le k) hlt (unhide HQ)];rfl),hbA _⟩
   ·have HQ:=hide hq;clear hq;go_wp2_with fail
    refine(l3kid_from w _ (unhide HS) (unhide HB) hp _ (by omega) (by omega) (by exact hbA _)).mono ?_;rintro e w' ⟨rfl,rfl⟩;rw[show sKidI ns p (k:Int)=sKid ns p k from rfl];go_wp2_with fail
    refine(l3target_any _ _).mono ?_;rintro e w' ⟨rfl,rfl⟩;rw[unhide HQ];go_wp2_with fail
    go_round
    case rel=>
     refine⟨k+1,by omega,by go_num,fun j h1 h2=>?_⟩;by_cases e:j=k
     ·subst e;exact unhide HQ
     ·exact hall.out j h1 (by omega)
    case measure=>simp[intOf];omega
  ·have E:=unhide HE;rw[allFrom_true (fun j h1 h2=>hall.out j h1 (by omega)),Bool.true_and]at E;have HE2:=hide E;clear E HE;go_wp2_with fail
   refine(l3bare_any _ _ _ _ _ _ _ _ _ _ _ _ _ _ _ _ _ _).mono ?_;rintro e w' ⟨rfl,hb'⟩;have hbw:Below w.heap.size w w':=(hbA _).trans (hb'.mono (by simp));obtain⟨hc,hf⟩:=bcell hb';cases hq:sBareV op m flt str rl false true false false 0
   ·have E:=unhide HE2;rw[hq,Bool.false_and]at E;have HE3:=hide E;clear E hq;go_wp2_with fail
    go_ret;exact⟨ret_bool (unhide HE3).symm,hbw⟩
   ·have E:=unhide HE2;rw[hq,Bool.true_and]at E;have HE3:=hide E;clear E hq;go_wp2_with fail
    refine(l3exprs_from w _ (unhide HS) (unhide HB) hp _ _ (by omega) (by omega) (by omega) hbw).mono ?_;rintro e w' ⟨rfl,rfl⟩;go_wp2_with fail
    go_ret;exact⟨ret_bool (unhide HE3).symm,hbw⟩
end Go.Proofs.YtofcbekoaghikaaGreatDoor

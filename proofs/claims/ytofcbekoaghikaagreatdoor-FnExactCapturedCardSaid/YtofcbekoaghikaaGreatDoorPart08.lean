import Derived.Test.YtofcbekoaghikaaGreatDoorPart05
set_option linter.unusedSimpArgs false
set_option linter.unusedVariables false
set_option maxHeartbeats 2000000
set_option maxRecDepth 100000
namespace Go.Proofs.YtofcbekoaghikaaGreatDoor
open Go.RowKit
attribute [local go_sem] run_store_float
theorem ex20 (a:Option Addr)(ns:List NodeD)(c p:Nat)(S:Nat->Prop)(w:World)(hs:NodesAt w S a ns)(hB:∀ b,S b->b<w.heap.size)(hp:p<ns.length)(hkl:(nd ns p).kids.length<=200)(hk:(nd ns p).kind=20) :
  Calls Tryz.prog 62 #[.slice a ns.length c,.int .i64 p] w fun e w'=>e=.returned (.bool (sExpression ns p))/\Below w.heap.size w w':=by
 have hbA:∀ o,Below w.heap.size w (w.alloc o):=fun o=>(Below.refl _ _).alloc (Nat.le_refl _) o;have E:sExpression ns p=exArm ns p (nd ns p) (nd ns p).kids.length 20:=by rw[sExpression,hk]
 have hn:=hs.1;obtain⟨b,off,ea,hb,hcc⟩:=hs.2 (by omega);have N:NodeCells w S b (off+p * 8) (nd ns p):=hcc p hp;clear hcc;generalize nd ns p=n at *;obtain⟨kind,line,op,num,flt,str,refs,kids⟩:=n;obtain⟨ra,rc,hr,hrI⟩:=N.refs;obtain⟨ka,kc,hkk,hkI⟩:=N.kids;have c0:=N.kind;have c1:=N.line;have c2:=N.op;have c3:=N.num;have c4:=N.flt;have c5:=N.str;have hss:=N.strs;have hrl:=hrI.1;simp only[exArm,sBare]at E;dsimp only at E hk hkl hr hrl hkk c0 c1 c2 c3 c4 c5 hss;clear N hrI hkI;subst hk;generalize kids.length=kl at *;generalize refs.length=rl at *;subst ea;have hK:(0:Int)<=kl:=by omega
 have hK2:(kl:Int)<=200:=by omega
 have HE:=hide E;clear E;have HS:=hide hs;have HB:=hide hB;clear hs hB;go_enter Tryz.func62,Tryz.ntmps62;go_wp2_with (first
  | (go_at_call 77;refine(l3kid_from w _ (unhide HS) (unhide HB) hp _ (by omega) (by omega) (by exact hbA _)).mono ?_;rintro e w' ⟨rfl,rfl⟩)
  | (go_at_call 79;refine(l3exprs_from w _ (unhide HS) (unhide HB) hp _ _ (by omega) (by omega) (by omega) (by first | exact hbA _ | exact(hbA _).trans (hb'.mono (by simp)))).mono ?_;rintro e w' ⟨rfl,rfl⟩)
  | (go_at_call 81;refine(l3many_any _ _).mono ?_;rintro e w' ⟨rfl,rfl⟩)
  | (go_at_call 78;refine(l3bare_any _ _ _ _ _ _ _ _ _ _ _ _ _ _ _ _ _ _).mono ?_;rintro e w' ⟨rfl,hb'⟩))
 all_goals
  go_ret;have E:=unhide HE;refine⟨ret_bool ?_,?_⟩
  ·rw[E];first | (simp[*];done) | (simp[*]<;>omega)
  ·first | exact hbA _ | exact(hbA _).trans (hb'.mono (by simp))
theorem ex21 (a:Option Addr)(ns:List NodeD)(c p:Nat)(S:Nat->Prop)(w:World)(hs:NodesAt w S a ns)(hB:∀ b,S b->b<w.heap.size)(hp:p<ns.length)(hkl:(nd ns p).kids.length<=200)(hk:(nd ns p).kind=21) :
  Calls Tryz.prog 62 #[.slice a ns.length c,.int .i64 p] w fun e w'=>e=.returned (.bool (sExpression ns p))/\Below w.heap.size w w':=by
 have hbA:∀ o,Below w.heap.size w (w.alloc o):=fun o=>(Below.refl _ _).alloc (Nat.le_refl _) o;have E:sExpression ns p=exArm ns p (nd ns p) (nd ns p).kids.length 21:=by rw[sExpression,hk]
 have hn:=hs.1;obtain⟨b,off,ea,hb,hcc⟩:=hs.2 (by omega);have N:NodeCells w S b (off+p * 8) (nd ns p):=hcc p hp;clear hcc;generalize nd ns p=n at *;obtain⟨kind,line,op,num,flt,str,refs,kids⟩:=n;obtain⟨ra,rc,hr,hrI⟩:=N.refs;obtain⟨ka,kc,hkk,hkI⟩:=N.kids;have c0:=N.kind;have c1:=N.line;have c2:=N.op;have c3:=N.num;have c4:=N.flt;have c5:=N.str;have hss:=N.strs;have hrl:=hrI.1;simp only[exArm,sBare]at E;dsimp only at E hk hkl hr hrl hkk c0 c1 c2 c3 c4 c5 hss;clear N hrI hkI;subst hk;generalize kids.length=kl at *;generalize refs.length=rl at *;subst ea;have hK:(0:Int)<=kl:=by omega
 have hK2:(kl:Int)<=200:=by omega
 have HE:=hide E;clear E;have HS:=hide hs;have HB:=hide hB;clear hs hB;go_enter Tryz.func62,Tryz.ntmps62;go_wp2_with (first
  | (go_at_call 77;refine(l3kid_from w _ (unhide HS) (unhide HB) hp _ (by omega) (by omega) (by exact hbA _)).mono ?_;rintro e w' ⟨rfl,rfl⟩)
  | (go_at_call 79;refine(l3exprs_from w _ (unhide HS) (unhide HB) hp _ _ (by omega) (by omega) (by omega) (by first | exact hbA _ | exact(hbA _).trans (hb'.mono (by simp)))).mono ?_;rintro e w' ⟨rfl,rfl⟩)
  | (go_at_call 81;refine(l3many_any _ _).mono ?_;rintro e w' ⟨rfl,rfl⟩)
  | (go_at_call 78;refine(l3bare_any _ _ _ _ _ _ _ _ _ _ _ _ _ _ _ _ _ _).mono ?_;rintro e w' ⟨rfl,hb'⟩))
 all_goals
  go_ret;have E:=unhide HE;refine⟨ret_bool ?_,?_⟩
  ·rw[E];first | (simp[*];done) | (simp[*]<;>omega)
  ·first | exact hbA _ | exact(hbA _).trans (hb'.mono (by simp))
theorem ex22 (a:Option Addr)(ns:List NodeD)(c p:Nat)(S:Nat->Prop)(w:World)(hs:NodesAt w S a ns)(hB:∀ b,S b->b<w.heap.size)(hp:p<ns.length)(hkl:(nd ns p).kids.length<=200)(hk:(nd ns p).kind=22) :
  Calls Tryz.prog 62 #[.slice a ns.length c,.int .i64 p] w fun e w'=>e=.returned (.bool (sExpression ns p))/\Below w.heap.size w w':=by
 have hbA:∀ o,Below w.heap.size w (w.alloc o):=fun o=>(Below.refl _ _).alloc (Nat.le_refl _) o;have E:sExpression ns p=exArm ns p (nd ns p) (nd ns p).kids.length 22:=by rw[sExpression,hk]
 have hn:=hs.1;obtain⟨b,off,ea,hb,hcc⟩:=hs.2 (by omega);have N:NodeCells w S b (off+p * 8) (nd ns p):=hcc p hp;clear hcc;generalize nd ns p=n at *;obtain⟨kind,line,op,num,flt,str,refs,kids⟩:=n;obtain⟨ra,rc,hr,hrI⟩:=N.refs;obtain⟨ka,kc,hkk,hkI⟩:=N.kids;have c0:=N.kind;have c1:=N.line;have c2:=N.op;have c3:=N.num;have c4:=N.flt;have c5:=N.str;have hss:=N.strs;have hrl:=hrI.1;simp only[exArm,sBare]at E;dsimp only at E hk hkl hr hrl hkk c0 c1 c2 c3 c4 c5 hss;clear N hrI hkI;subst hk;generalize kids.length=kl at *;generalize refs.length=rl at *;subst ea;have hK:(0:Int)<=kl:=by omega
 have hK2:(kl:Int)<=200:=by omega
 have HE:=hide E;clear E;have HS:=hide hs;have HB:=hide hB;clear hs hB;go_enter Tryz.func62,Tryz.ntmps62;go_wp2_with (first
  | (go_at_call 77;refine(l3kid_from w _ (unhide HS) (unhide HB) hp _ (by omega) (by omega) (by exact hbA _)).mono ?_;rintro e w' ⟨rfl,rfl⟩)
  | (go_at_call 79;refine(l3exprs_from w _ (unhide HS) (unhide HB) hp _ _ (by omega) (by omega) (by omega) (by first | exact hbA _ | exact(hbA _).trans (hb'.mono (by simp)))).mono ?_;rintro e w' ⟨rfl,rfl⟩)
  | (go_at_call 81;refine(l3many_any _ _).mono ?_;rintro e w' ⟨rfl,rfl⟩)
  | (go_at_call 78;refine(l3bare_any _ _ _ _ _ _ _ _ _ _ _ _ _ _ _ _ _ _).mono ?_;rintro e w' ⟨rfl,hb'⟩))
 all_goals
  go_ret;have E:=unhide HE;refine⟨ret_bool ?_,?_⟩
  ·rw[E];first | (simp[*];done) | (simp[*]<;>omega)
  ·first | exact hbA _ | exact(hbA _).trans (hb'.mono (by simp))
theorem ex37 (a:Option Addr)(ns:List NodeD)(c p:Nat)(S:Nat->Prop)(w:World)(hs:NodesAt w S a ns)(hB:∀ b,S b->b<w.heap.size)(hp:p<ns.length)(hkl:(nd ns p).kids.length<=200)(hk:(nd ns p).kind=37) :
  Calls Tryz.prog 62 #[.slice a ns.length c,.int .i64 p] w fun e w'=>e=.returned (.bool (sExpression ns p))/\Below w.heap.size w w':=by
 have hbA:∀ o,Below w.heap.size w (w.alloc o):=fun o=>(Below.refl _ _).alloc (Nat.le_refl _) o;have E:sExpression ns p=exArm ns p (nd ns p) (nd ns p).kids.length 37:=by rw[sExpression,hk]
 have hn:=hs.1;obtain⟨b,off,ea,hb,hcc⟩:=hs.2 (by omega);have N:NodeCells w S b (off+p * 8) (nd ns p):=hcc p hp;clear hcc;generalize nd ns p=n at *;obtain⟨kind,line,op,num,flt,str,refs,kids⟩:=n;obtain⟨ra,rc,hr,hrI⟩:=N.refs;obtain⟨ka,kc,hkk,hkI⟩:=N.kids;have c0:=N.kind;have c1:=N.line;have c2:=N.op;have c3:=N.num;have c4:=N.flt;have c5:=N.str;have hss:=N.strs;have hrl:=hrI.1;simp only[exArm,sBare]at E;dsimp only at E hk hkl hr hrl hkk c0 c1 c2 c3 c4 c5 hss;clear N hrI hkI;subst hk;generalize kids.length=kl at *;generalize refs.length=rl at *;subst ea;have hK:(0:Int)<=kl:=by omega
 have hK2:(kl:Int)<=200:=by omega
 have HE:=hide E;clear E;have HS:=hide hs;have HB:=hide hB;clear hs hB;go_enter Tryz.func62,Tryz.ntmps62;go_wp2_with (first
  | (go_at_call 77;refine(l3kid_from w _ (unhide HS) (unhide HB) hp _ (by omega) (by omega) (by exact hbA _)).mono ?_;rintro e w' ⟨rfl,rfl⟩)
  | (go_at_call 79;refine(l3exprs_from w _ (unhide HS) (unhide HB) hp _ _ (by omega) (by omega) (by omega) (by first | exact hbA _ | exact(hbA _).trans (hb'.mono (by simp)))).mono ?_;rintro e w' ⟨rfl,rfl⟩)
  | (go_at_call 81;refine(l3many_any _ _).mono ?_;rintro e w' ⟨rfl,rfl⟩)
  | (go_at_call 78;refine(l3bare_any _ _ _ _ _ _ _ _ _ _ _ _ _ _ _ _ _ _).mono ?_;rintro e w' ⟨rfl,hb'⟩))
 all_goals
  go_ret;have E:=unhide HE;refine⟨ret_bool ?_,?_⟩
  ·rw[E];first | (simp[*];done) | (simp[*]<;>omega)
  ·first | exact hbA _ | exact(hbA _).trans (hb'.mono (by simp))
theorem ex23 (a:Option Addr)(ns:List NodeD)(c p:Nat)(S:Nat->Prop)(w:World)(hs:NodesAt w S a ns)(hB:∀ b,S b->b<w.heap.size)(hp:p<ns.length)(hkl:(nd ns p).kids.length<=200)(hk:(nd ns p).kind=23) :
  Calls Tryz.prog 62 #[.slice a ns.length c,.int .i64 p] w fun e w'=>e=.returned (.bool (sExpression ns p))/\Below w.heap.size w w':=by
 have hbA:∀ o,Below w.heap.size w (w.alloc o):=fun o=>(Below.refl _ _).alloc (Nat.le_refl _) o;have E:sExpression ns p=exArm ns p (nd ns p) (nd ns p).kids.length 23:=by rw[sExpression,hk]
 have hn:=hs.1;obtain⟨b,off,ea,hb,hcc⟩:=hs.2 (by omega);have N:NodeCells w S b (off+p * 8) (nd ns p):=hcc p hp;clear hcc;generalize nd ns p=n at *;obtain⟨kind,line,op,num,flt,str,refs,kids⟩:=n;obtain⟨ra,rc,hr,hrI⟩:=N.refs;obtain⟨ka,kc,hkk,hkI⟩:=N.kids;have c0:=N.kind;have c1:=N.line;have c2:=N.op;have c3:=N.num;have c4:=N.flt;have c5:=N.str;have hss:=N.strs;have hrl:=hrI.1;simp only[exArm,sBare]at E;dsimp only at E hk hkl hr hrl hkk c0 c1 c2 c3 c4 c5 hss;clear N hrI hkI;subst hk;generalize kids.length=kl at *;generalize refs.length=rl at *;subst ea;have hK:(0:Int)<=kl:=by omega
 have hK2:(kl:Int)<=200:=by omega
 have HE:=hide E;clear E;have HS:=hide hs;have HB:=hide hB;clear hs hB;go_enter Tryz.func62,Tryz.ntmps62;go_wp2_with (first
  | (go_at_call 77;refine(l3kid_from w _ (unhide HS) (unhide HB) hp _ (by omega) (by omega) (by exact hbA _)).mono ?_;rintro e w' ⟨rfl,rfl⟩)
  | (go_at_call 79;refine(l3exprs_from w _ (unhide HS) (unhide HB) hp _ _ (by omega) (by omega) (by omega) (by first | exact hbA _ | exact(hbA _).trans (hb'.mono (by simp)))).mono ?_;rintro e w' ⟨rfl,rfl⟩)
  | (go_at_call 81;refine(l3many_any _ _).mono ?_;rintro e w' ⟨rfl,rfl⟩)
  | (go_at_call 78;refine(l3bare_any _ _ _ _ _ _ _ _ _ _ _ _ _ _ _ _ _ _).mono ?_;rintro e w' ⟨rfl,hb'⟩))
 all_goals
  go_ret;have E:=unhide HE;refine⟨ret_bool ?_,?_⟩
  ·rw[E];first | (simp[*];done) | (simp[*]<;>omega)
  ·first | exact hbA _ | exact(hbA _).trans (hb'.mono (by simp))
theorem ex24 (a:Option Addr)(ns:List NodeD)(c p:Nat)(S:Nat->Prop)(w:World)(hs:NodesAt w S a ns)(hB:∀ b,S b->b<w.heap.size)(hp:p<ns.length)(hkl:(nd ns p).kids.length<=200)(hk:(nd ns p).kind=24) :
  Calls Tryz.prog 62 #[.slice a ns.length c,.int .i64 p] w fun e w'=>e=.returned (.bool (sExpression ns p))/\Below w.heap.size w w':=by
 have hbA:∀ o,Below w.heap.size w (w.alloc o):=fun o=>(Below.refl _ _).alloc (Nat.le_refl _) o;have E:sExpression ns p=exArm ns p (nd ns p) (nd ns p).kids.length 24:=by rw[sExpression,hk]
 have hn:=hs.1;obtain⟨b,off,ea,hb,hcc⟩:=hs.2 (by omega);have N:NodeCells w S b (off+p * 8) (nd ns p):=hcc p hp;clear hcc;generalize nd ns p=n at *;obtain⟨kind,line,op,num,flt,str,refs,kids⟩:=n;obtain⟨ra,rc,hr,hrI⟩:=N.refs;obtain⟨ka,kc,hkk,hkI⟩:=N.kids;have c0:=N.kind;have c1:=N.line;have c2:=N.op;have c3:=N.num;have c4:=N.flt;have c5:=N.str;have hss:=N.strs;have hrl:=hrI.1;simp only[exArm,sBare,fltNum]at E;dsimp only at E hk hkl hr hrl hkk c0 c1 c2 c3 c4 c5 hss;clear N hrI hkI;subst hk;generalize kids.length=kl at *;generalize refs.length=rl at *;subst ea;have hK:(0:Int)<=kl:=by omega
 have hK2:(kl:Int)<=200:=by omega
 have HE:=hide E;clear E;have HS:=hide hs;have HB:=hide hB;clear hs hB;go_enter Tryz.func62,Tryz.ntmps62;go_wp2_with (first
  | (go_at_call 77;refine(l3kid_from w _ (unhide HS) (unhide HB) hp _ (by omega) (by omega) (by exact hbA _)).mono ?_;rintro e w' ⟨rfl,rfl⟩)
  | (go_at_call 79;refine(l3exprs_from w _ (unhide HS) (unhide HB) hp _ _ (by omega) (by omega) (by omega) (by first | exact hbA _ | exact(hbA _).trans (hb'.mono (by simp)))).mono ?_;rintro e w' ⟨rfl,rfl⟩)
  | (go_at_call 81;refine(l3many_any _ _).mono ?_;rintro e w' ⟨rfl,rfl⟩)
  | (go_at_call 78;refine(l3bare_any _ _ _ _ _ _ _ _ _ _ _ _ _ _ _ _ _ _).mono ?_;rintro e w' ⟨rfl,hb'⟩))
 all_goals
  go_ret;have E:=unhide HE;refine⟨ret_bool ?_,?_⟩
  ·rw[E];first | (simp[*];done) | (simp[*]<;>omega)
  ·first | exact hbA _ | exact(hbA _).trans (hb'.mono (by simp))
theorem ex25 (a:Option Addr)(ns:List NodeD)(c p:Nat)(S:Nat->Prop)(w:World)(hs:NodesAt w S a ns)(hB:∀ b,S b->b<w.heap.size)(hp:p<ns.length)(hkl:(nd ns p).kids.length<=200)(hk:(nd ns p).kind=25) :
  Calls Tryz.prog 62 #[.slice a ns.length c,.int .i64 p] w fun e w'=>e=.returned (.bool (sExpression ns p))/\Below w.heap.size w w':=by
 have hbA:∀ o,Below w.heap.size w (w.alloc o):=fun o=>(Below.refl _ _).alloc (Nat.le_refl _) o;have E:sExpression ns p=exArm ns p (nd ns p) (nd ns p).kids.length 25:=by rw[sExpression,hk]
 have hn:=hs.1;obtain⟨b,off,ea,hb,hcc⟩:=hs.2 (by omega);have N:NodeCells w S b (off+p * 8) (nd ns p):=hcc p hp;clear hcc;generalize nd ns p=n at *;obtain⟨kind,line,op,num,flt,str,refs,kids⟩:=n;obtain⟨ra,rc,hr,hrI⟩:=N.refs;obtain⟨ka,kc,hkk,hkI⟩:=N.kids;have c0:=N.kind;have c1:=N.line;have c2:=N.op;have c3:=N.num;have c4:=N.flt;have c5:=N.str;have hss:=N.strs;have hrl:=hrI.1;simp only[exArm,sBare]at E;dsimp only at E hk hkl hr hrl hkk c0 c1 c2 c3 c4 c5 hss;clear N hrI hkI;subst hk;generalize kids.length=kl at *;generalize refs.length=rl at *;subst ea;have hK:(0:Int)<=kl:=by omega
 have hK2:(kl:Int)<=200:=by omega
 have HE:=hide E;clear E;have HS:=hide hs;have HB:=hide hB;clear hs hB;go_enter Tryz.func62,Tryz.ntmps62;go_wp2_with (first
  | (go_at_call 77;refine(l3kid_from w _ (unhide HS) (unhide HB) hp _ (by omega) (by omega) (by exact hbA _)).mono ?_;rintro e w' ⟨rfl,rfl⟩)
  | (go_at_call 79;refine(l3exprs_from w _ (unhide HS) (unhide HB) hp _ _ (by omega) (by omega) (by omega) (by first | exact hbA _ | exact(hbA _).trans (hb'.mono (by simp)))).mono ?_;rintro e w' ⟨rfl,rfl⟩)
  | (go_at_call 81;refine(l3many_any _ _).mono ?_;rintro e w' ⟨rfl,rfl⟩)
  | (go_at_call 78;refine(l3bare_any _ _ _ _ _ _ _ _ _ _ _ _ _ _ _ _ _ _).mono ?_;rintro e w' ⟨rfl,hb'⟩))
 all_goals
  go_ret;have E:=unhide HE;refine⟨ret_bool ?_,?_⟩
  ·rw[E];first | (simp[*];done) | (simp[*]<;>omega)
  ·first | exact hbA _ | exact(hbA _).trans (hb'.mono (by simp))
theorem ex26 (a:Option Addr)(ns:List NodeD)(c p:Nat)(S:Nat->Prop)(w:World)(hs:NodesAt w S a ns)(hB:∀ b,S b->b<w.heap.size)(hp:p<ns.length)(hkl:(nd ns p).kids.length<=200)(hk:(nd ns p).kind=26) :
  Calls Tryz.prog 62 #[.slice a ns.length c,.int .i64 p] w fun e w'=>e=.returned (.bool (sExpression ns p))/\Below w.heap.size w w':=by
 have hbA:∀ o,Below w.heap.size w (w.alloc o):=fun o=>(Below.refl _ _).alloc (Nat.le_refl _) o;have E:sExpression ns p=exArm ns p (nd ns p) (nd ns p).kids.length 26:=by rw[sExpression,hk]
 have hn:=hs.1;obtain⟨b,off,ea,hb,hcc⟩:=hs.2 (by omega);have N:NodeCells w S b (off+p * 8) (nd ns p):=hcc p hp;clear hcc;generalize nd ns p=n at *;obtain⟨kind,line,op,num,flt,str,refs,kids⟩:=n;obtain⟨ra,rc,hr,hrI⟩:=N.refs;obtain⟨ka,kc,hkk,hkI⟩:=N.kids;have c0:=N.kind;have c1:=N.line;have c2:=N.op;have c3:=N.num;have c4:=N.flt;have c5:=N.str;have hss:=N.strs;have hrl:=hrI.1;simp only[exArm,sBare]at E;dsimp only at E hk hkl hr hrl hkk c0 c1 c2 c3 c4 c5 hss;clear N hrI hkI;subst hk;generalize kids.length=kl at *;generalize refs.length=rl at *;subst ea;have hK:(0:Int)<=kl:=by omega
 have hK2:(kl:Int)<=200:=by omega
 have HE:=hide E;clear E;have HS:=hide hs;have HB:=hide hB;clear hs hB;go_enter Tryz.func62,Tryz.ntmps62;go_wp2_with (first
  | (go_at_call 77;refine(l3kid_from w _ (unhide HS) (unhide HB) hp _ (by omega) (by omega) (by exact hbA _)).mono ?_;rintro e w' ⟨rfl,rfl⟩)
  | (go_at_call 79;refine(l3exprs_from w _ (unhide HS) (unhide HB) hp _ _ (by omega) (by omega) (by omega) (by first | exact hbA _ | exact(hbA _).trans (hb'.mono (by simp)))).mono ?_;rintro e w' ⟨rfl,rfl⟩)
  | (go_at_call 81;refine(l3many_any _ _).mono ?_;rintro e w' ⟨rfl,rfl⟩)
  | (go_at_call 78;refine(l3bare_any _ _ _ _ _ _ _ _ _ _ _ _ _ _ _ _ _ _).mono ?_;rintro e w' ⟨rfl,hb'⟩))
 all_goals
  go_ret;have E:=unhide HE;refine⟨ret_bool ?_,?_⟩
  ·rw[E];first | (simp[*];done) | (simp[*]<;>omega)
  ·first | exact hbA _ | exact(hbA _).trans (hb'.mono (by simp))
theorem ex27 (a:Option Addr)(ns:List NodeD)(c p:Nat)(S:Nat->Prop)(w:World)(hs:NodesAt w S a ns)(hB:∀ b,S b->b<w.heap.size)(hp:p<ns.length)(hkl:(nd ns p).kids.length<=200)(hk:(nd ns p).kind=27) :
  Calls Tryz.prog 62 #[.slice a ns.length c,.int .i64 p] w fun e w'=>e=.returned (.bool (sExpression ns p))/\Below w.heap.size w w':=by
 have hbA:∀ o,Below w.heap.size w (w.alloc o):=fun o=>(Below.refl _ _).alloc (Nat.le_refl _) o;have E:sExpression ns p=exArm ns p (nd ns p) (nd ns p).kids.length 27:=by rw[sExpression,hk]
 have hn:=hs.1;obtain⟨b,off,ea,hb,hcc⟩:=hs.2 (by omega);have N:NodeCells w S b (off+p * 8) (nd ns p):=hcc p hp;clear hcc;generalize nd ns p=n at *;obtain⟨kind,line,op,num,flt,str,refs,kids⟩:=n;obtain⟨ra,rc,hr,hrI⟩:=N.refs;obtain⟨ka,kc,hkk,hkI⟩:=N.kids;have c0:=N.kind;have c1:=N.line;have c2:=N.op;have c3:=N.num;have c4:=N.flt;have c5:=N.str;have hss:=N.strs;have hrl:=hrI.1;simp only[exArm,sBare]at E;dsimp only at E hk hkl hr hrl hkk c0 c1 c2 c3 c4 c5 hss;clear N hrI hkI;subst hk;generalize kids.length=kl at *;generalize refs.length=rl at *;subst ea;have hK:(0:Int)<=kl:=by omega
 have hK2:(kl:Int)<=200:=by omega
 have HE:=hide E;clear E;have HS:=hide hs;have HB:=hide hB;clear hs hB;go_enter Tryz.func62,Tryz.ntmps62;go_wp2_with (first
  | (go_at_call 77;refine(l3kid_from w _ (unhide HS) (unhide HB) hp _ (by omega) (by omega) (by exact hbA _)).mono ?_;rintro e w' ⟨rfl,rfl⟩)
  | (go_at_call 79;refine(l3exprs_from w _ (unhide HS) (unhide HB) hp _ _ (by omega) (by omega) (by omega) (by first | exact hbA _ | exact(hbA _).trans (hb'.mono (by simp)))).mono ?_;rintro e w' ⟨rfl,rfl⟩)
  | (go_at_call 81;refine(l3many_any _ _).mono ?_;rintro e w' ⟨rfl,rfl⟩)
  | (go_at_call 78;refine(l3bare_any _ _ _ _ _ _ _ _ _ _ _ _ _ _ _ _ _ _).mono ?_;rintro e w' ⟨rfl,hb'⟩))
 all_goals
  go_ret;have E:=unhide HE;refine⟨ret_bool ?_,?_⟩
  ·rw[E];first | (simp[*];done) | (simp[*]<;>omega)
  ·first | exact hbA _ | exact(hbA _).trans (hb'.mono (by simp))
theorem ex36 (a:Option Addr)(ns:List NodeD)(c p:Nat)(S:Nat->Prop)(w:World)(hs:NodesAt w S a ns)(hB:∀ b,S b->b<w.heap.size)(hp:p<ns.length)(hkl:(nd ns p).kids.length<=200)(hk:(nd ns p).kind=36) :
  Calls Tryz.prog 62 #[.slice a ns.length c,.int .i64 p] w fun e w'=>e=.returned (.bool (sExpression ns p))/\Below w.heap.size w w':=by
 have hbA:∀ o,Below w.heap.size w (w.alloc o):=fun o=>(Below.refl _ _).alloc (Nat.le_refl _) o;have E:sExpression ns p=exArm ns p (nd ns p) (nd ns p).kids.length 36:=by rw[sExpression,hk]
 have hn:=hs.1;obtain⟨b,off,ea,hb,hcc⟩:=hs.2 (by omega);have N:NodeCells w S b (off+p * 8) (nd ns p):=hcc p hp;clear hcc;generalize nd ns p=n at *;obtain⟨kind,line,op,num,flt,str,refs,kids⟩:=n;obtain⟨ra,rc,hr,hrI⟩:=N.refs;obtain⟨ka,kc,hkk,hkI⟩:=N.kids;have c0:=N.kind;have c1:=N.line;have c2:=N.op;have c3:=N.num;have c4:=N.flt;have c5:=N.str;have hss:=N.strs;have hrl:=hrI.1;simp only[exArm,sBare]at E;dsimp only at E hk hkl hr hrl hkk c0 c1 c2 c3 c4 c5 hss;clear N hrI hkI;subst hk;generalize kids.length=kl at *;generalize refs.length=rl at *;subst ea;have hK:(0:Int)<=kl:=by omega
 have hK2:(kl:Int)<=200:=by omega
 have HE:=hide E;clear E;have HS:=hide hs;have HB:=hide hB;clear hs hB;go_enter Tryz.func62,Tryz.ntmps62;go_wp2_with (first
  | (go_at_call 77;refine(l3kid_from w _ (unhide HS) (unhide HB) hp _ (by omega) (by omega) (by exact hbA _)).mono ?_;rintro e w' ⟨rfl,rfl⟩)
  | (go_at_call 79;refine(l3exprs_from w _ (unhide HS) (unhide HB) hp _ _ (by omega) (by omega) (by omega) (by first | exact hbA _ | exact(hbA _).trans (hb'.mono (by simp)))).mono ?_;rintro e w' ⟨rfl,rfl⟩)
  | (go_at_call 81;refine(l3many_any _ _).mono ?_;rintro e w' ⟨rfl,rfl⟩)
  | (go_at_call 78;refine(l3bare_any _ _ _ _ _ _ _ _ _ _ _ _ _ _ _ _ _ _).mono ?_;rintro e w' ⟨rfl,hb'⟩))
 all_goals
  go_ret;have E:=unhide HE;refine⟨ret_bool ?_,?_⟩
  ·rw[E];first | (simp[*];done) | (simp[*]<;>omega)
  ·first | exact hbA _ | exact(hbA _).trans (hb'.mono (by simp))
attribute [local go_sem] run_store_float
theorem ex28 (a:Option Addr)(ns:List NodeD)(c p:Nat)(S:Nat->Prop)(w:World)(hs:NodesAt w S a ns)(hB:∀ b,S b->b<w.heap.size)(hp:p<ns.length)(hkl:(nd ns p).kids.length<=200)(hk:(nd ns p).kind=28) :
  Calls Tryz.prog 62 #[.slice a ns.length c,.int .i64 p] w fun e w'=>e=.returned (.bool (sExpression ns p))/\Below w.heap.size w w':=by
 have hbA:∀ o,Below w.heap.size w (w.alloc o):=fun o=>(Below.refl _ _).alloc (Nat.le_refl _) o;have E:sExpression ns p=exArm ns p (nd ns p) (nd ns p).kids.length 28:=by rw[sExpression,hk]
 have hn:=hs.1;obtain⟨b,off,ea,hb,hcc⟩:=hs.2 (by omega);have N:NodeCells w S b (off+p * 8) (nd ns p):=hcc p hp;clear hcc;generalize nd ns p=n at *;obtain⟨kind,line,op,num,flt,str,refs,kids⟩:=n;obtain⟨ra,rc,hr,hrI⟩:=N.refs;obtain⟨ka,kc,hkk,hkI⟩:=N.kids;have c0:=N.kind;have c1:=N.line;have c2:=N.op;have c3:=N.num;have c4:=N.flt;have c5:=N.str;have hss:=N.strs;have hrl:=hrI.1;simp only[exArm,sBare]at E;dsimp only at E hk hkl hr hrl hkk c0 c1 c2 c3 c4 c5 hss;clear N hrI hkI;subst hk;generalize kids.length=kl at *;generalize refs.length=rl at *;subst ea;have hK:(0:Int)<=kl:=by omega
 have hK2:(kl:Int)<=200:=by omega
 have HE:=hide E;clear E;have HS:=hide hs;have HB:=hide hB;clear hs hB;go_enter Tryz.func62,Tryz.ntmps62;go_wp2_with (first
  | (go_at_call 77;refine(l3kid_from w _ (unhide HS) (unhide HB) hp _ (by omega) (by omega) (by exact hbA _)).mono ?_;rintro e w' ⟨rfl,rfl⟩)
  | (go_at_call 79;refine(l3exprs_from w _ (unhide HS) (unhide HB) hp _ _ (by omega) (by omega) (by omega) (by first | exact hbA _ | exact(hbA _).trans (hb'.mono (by simp)))).mono ?_;rintro e w' ⟨rfl,rfl⟩)
  | (go_at_call 81;refine(l3many_any _ _).mono ?_;rintro e w' ⟨rfl,rfl⟩)
  | (go_at_call 78;refine(l3bare_any _ _ _ _ _ _ _ _ _ _ _ _ _ _ _ _ _ _).mono ?_;rintro e w' ⟨rfl,hb'⟩))
 all_goals
  go_ret;have E:=unhide HE;refine⟨ret_bool ?_,?_⟩
  ·rw[E];first | (simp[*];done) | (simp[*]<;>omega)
  ·first | exact hbA _ | exact(hbA _).trans (hb'.mono (by simp))
theorem ex29 (a:Option Addr)(ns:List NodeD)(c p:Nat)(S:Nat->Prop)(w:World)(hs:NodesAt w S a ns)(hB:∀ b,S b->b<w.heap.size)(hp:p<ns.length)(hkl:(nd ns p).kids.length<=200)(hk:(nd ns p).kind=29) :
  Calls Tryz.prog 62 #[.slice a ns.length c,.int .i64 p] w fun e w'=>e=.returned (.bool (sExpression ns p))/\Below w.heap.size w w':=by
 have hbA:∀ o,Below w.heap.size w (w.alloc o):=fun o=>(Below.refl _ _).alloc (Nat.le_refl _) o;have E:sExpression ns p=exArm ns p (nd ns p) (nd ns p).kids.length 29:=by rw[sExpression,hk]
 have hn:=hs.1;obtain⟨b,off,ea,hb,hcc⟩:=hs.2 (by omega);have N:NodeCells w S b (off+p * 8) (nd ns p):=hcc p hp;clear hcc;generalize nd ns p=n at *;obtain⟨kind,line,op,num,flt,str,refs,kids⟩:=n;obtain⟨ra,rc,hr,hrI⟩:=N.refs;obtain⟨ka,kc,hkk,hkI⟩:=N.kids;have c0:=N.kind;have c1:=N.line;have c2:=N.op;have c3:=N.num;have c4:=N.flt;have c5:=N.str;have hss:=N.strs;have hrl:=hrI.1;simp only[exArm,sBare]at E;dsimp only at E hk hkl hr hrl hkk c0 c1 c2 c3 c4 c5 hss;clear N hrI hkI;subst hk;generalize kids.length=kl at *;generalize refs.length=rl at *;subst ea;have hK:(0:Int)<=kl:=by omega
 have hK2:(kl:Int)<=200:=by omega
 have HE:=hide E;clear E;have HS:=hide hs;have HB:=hide hB;clear hs hB;go_enter Tryz.func62,Tryz.ntmps62;go_wp2_with (first
  | (go_at_call 77;refine(l3kid_from w _ (unhide HS) (unhide HB) hp _ (by omega) (by omega) (by exact hbA _)).mono ?_;rintro e w' ⟨rfl,rfl⟩)
  | (go_at_call 79;refine(l3exprs_from w _ (unhide HS) (unhide HB) hp _ _ (by omega) (by omega) (by omega) (by first | exact hbA _ | exact(hbA _).trans (hb'.mono (by simp)))).mono ?_;rintro e w' ⟨rfl,rfl⟩)
  | (go_at_call 81;refine(l3many_any _ _).mono ?_;rintro e w' ⟨rfl,rfl⟩)
  | (go_at_call 78;refine(l3bare_any _ _ _ _ _ _ _ _ _ _ _ _ _ _ _ _ _ _).mono ?_;rintro e w' ⟨rfl,hb'⟩))
 all_goals
  go_ret;have E:=unhide HE;refine⟨ret_bool ?_,?_⟩
  ·rw[E];first | (simp[*];done) | (simp[*]<;>omega)
  ·first | exact hbA _ | exact(hbA _).trans (hb'.mono (by simp))
theorem ex30 (a:Option Addr)(ns:List NodeD)(c p:Nat)(S:Nat->Prop)(w:World)(hs:NodesAt w S a ns)(hB:∀ b,S b->b<w.heap.size)(hp:p<ns.length)(hkl:(nd ns p).kids.length<=200)(hk:(nd ns p).kind=30) :
  Calls Tryz.prog 62 #[.slice a ns.length c,.int .i64 p] w fun e w'=>e=.returned (.bool (sExpression ns p))/\Below w.heap.size w w':=by
 have hbA:∀ o,Below w.heap.size w (w.alloc o):=fun o=>(Below.refl _ _).alloc (Nat.le_refl _) o;have E:sExpression ns p=exArm ns p (nd ns p) (nd ns p).kids.length 30:=by rw[sExpression,hk]
 have hn:=hs.1;obtain⟨b,off,ea,hb,hcc⟩:=hs.2 (by omega);have N:NodeCells w S b (off+p * 8) (nd ns p):=hcc p hp;clear hcc;generalize nd ns p=n at *;obtain⟨kind,line,op,num,flt,str,refs,kids⟩:=n;obtain⟨ra,rc,hr,hrI⟩:=N.refs;obtain⟨ka,kc,hkk,hkI⟩:=N.kids;have c0:=N.kind;have c1:=N.line;have c2:=N.op;have c3:=N.num;have c4:=N.flt;have c5:=N.str;have hss:=N.strs;have hrl:=hrI.1;simp only[exArm,sBare]at E;dsimp only at E hk hkl hr hrl hkk c0 c1 c2 c3 c4 c5 hss;clear N hrI hkI;subst hk;generalize kids.length=kl at *;generalize refs.length=rl at *;subst ea;have hK:(0:Int)<=kl:=by omega
 have hK2:(kl:Int)<=200:=by omega
 have HE:=hide E;clear E;have HS:=hide hs;have HB:=hide hB;clear hs hB;go_enter Tryz.func62,Tryz.ntmps62;go_wp2_with (first
  | (go_at_call 77;refine(l3kid_from w _ (unhide HS) (unhide HB) hp _ (by omega) (by omega) (by exact hbA _)).mono ?_;rintro e w' ⟨rfl,rfl⟩)
  | (go_at_call 79;refine(l3exprs_from w _ (unhide HS) (unhide HB) hp _ _ (by omega) (by omega) (by omega) (by first | exact hbA _ | exact(hbA _).trans (hb'.mono (by simp)))).mono ?_;rintro e w' ⟨rfl,rfl⟩)
  | (go_at_call 81;refine(l3many_any _ _).mono ?_;rintro e w' ⟨rfl,rfl⟩)
  | (go_at_call 78;refine(l3bare_any _ _ _ _ _ _ _ _ _ _ _ _ _ _ _ _ _ _).mono ?_;rintro e w' ⟨rfl,hb'⟩))
 all_goals
  go_ret;have E:=unhide HE;refine⟨ret_bool ?_,?_⟩
  ·rw[E];first | (simp[*];done) | (simp[*]<;>omega)
  ·first | exact hbA _ | exact(hbA _).trans (hb'.mono (by simp))
theorem ex33 (a:Option Addr)(ns:List NodeD)(c p:Nat)(S:Nat->Prop)(w:World)(hs:NodesAt w S a ns)(hB:∀ b,S b->b<w.heap.size)(hp:p<ns.length)(hkl:(nd ns p).kids.length<=200)(hk:(nd ns p).kind=33) :
  Calls Tryz.prog 62 #[.slice a ns.length c,.int .i64 p] w fun e w'=>e=.returned (.bool (sExpression ns p))/\Below w.heap.size w w':=by
 have hbA:∀ o,Below w.heap.size w (w.alloc o):=fun o=>(Below.refl _ _).alloc (Nat.le_refl _) o;have E:sExpression ns p=exArm ns p (nd ns p) (nd ns p).kids.length 33:=by rw[sExpression,hk]
 have hn:=hs.1;obtain⟨b,off,ea,hb,hcc⟩:=hs.2 (by omega);have N:NodeCells w S b (off+p * 8) (nd ns p):=hcc p hp;clear hcc;generalize nd ns p=n at *;obtain⟨kind,line,op,num,flt,str,refs,kids⟩:=n;obtain⟨ra,rc,hr,hrI⟩:=N.refs;obtain⟨ka,kc,hkk,hkI⟩:=N.kids;have c0:=N.kind;have c1:=N.line;have c2:=N.op;have c3:=N.num;have c4:=N.flt;have c5:=N.str;have hss:=N.strs;have hrl:=hrI.1;simp only[exArm,sBare]at E;dsimp only at E hk hkl hr hrl hkk c0 c1 c2 c3 c4 c5 hss;clear N hrI hkI;subst hk;generalize kids.length=kl at *;generalize refs.length=rl at *;subst ea;have hK:(0:Int)<=kl:=by omega
 have hK2:(kl:Int)<=200:=by omega
 have HE:=hide E;clear E;have HS:=hide hs;have HB:=hide hB;clear hs hB;go_enter Tryz.func62,Tryz.ntmps62;go_wp2_with (first
  | (go_at_call 77;refine(l3kid_from w _ (unhide HS) (unhide HB) hp _ (by omega) (by omega) (by exact hbA _)).mono ?_;rintro e w' ⟨rfl,rfl⟩)
  | (go_at_call 79;refine(l3exprs_from w _ (unhide HS) (unhide HB) hp _ _ (by omega) (by omega) (by omega) (by first | exact hbA _ | exact(hbA _).trans (hb'.mono (by simp)))).mono ?_;rintro e w' ⟨rfl,rfl⟩)
  | (go_at_call 81;refine(l3many_any _ _).mono ?_;rintro e w' ⟨rfl,rfl⟩)
  | (go_at_call 78;refine(l3bare_any _ _ _ _ _ _ _ _ _ _ _ _ _ _ _ _ _ _).mono ?_;rintro e w' ⟨rfl,hb'⟩))
 all_goals
  go_ret;have E:=unhide HE;refine⟨ret_bool ?_,?_⟩
  ·rw[E];first | (simp[*];done) | (simp[*]<;>omega)
  ·first | exact hbA _ | exact(hbA _).trans (hb'.mono (by simp))
theorem ex31 (a:Option Addr)(ns:List NodeD)(c p:Nat)(S:Nat->Prop)(w:World)(hs:NodesAt w S a ns)(hB:∀ b,S b->b<w.heap.size)(hp:p<ns.length)(hkl:(nd ns p).kids.length<=200)(hk:(nd ns p).kind=31) :
  Calls Tryz.prog 62 #[.slice a ns.length c,.int .i64 p] w fun e w'=>e=.returned (.bool (sExpression ns p))/\Below w.heap.size w w':=by
 have hbA:∀ o,Below w.heap.size w (w.alloc o):=fun o=>(Below.refl _ _).alloc (Nat.le_refl _) o;have E:sExpression ns p=exArm ns p (nd ns p) (nd ns p).kids.length 31:=by rw[sExpression,hk]
 have hn:=hs.1;obtain⟨b,off,ea,hb,hcc⟩:=hs.2 (by omega);have N:NodeCells w S b (off+p * 8) (nd ns p):=hcc p hp;clear hcc;generalize nd ns p=n at *;obtain⟨kind,line,op,num,flt,str,refs,kids⟩:=n;obtain⟨ra,rc,hr,hrI⟩:=N.refs;obtain⟨ka,kc,hkk,hkI⟩:=N.kids;have c0:=N.kind;have c1:=N.line;have c2:=N.op;have c3:=N.num;have c4:=N.flt;have c5:=N.str;have hss:=N.strs;have hrl:=hrI.1;simp only[exArm,sBare]at E;dsimp only at E hk hkl hr hrl hkk c0 c1 c2 c3 c4 c5 hss;clear N hrI hkI;subst hk;generalize kids.length=kl at *;generalize refs.length=rl at *;subst ea;have hK:(0:Int)<=kl:=by omega
 have hK2:(kl:Int)<=200:=by omega
 have HE:=hide E;clear E;have HS:=hide hs;have HB:=hide hB;clear hs hB;go_enter Tryz.func62,Tryz.ntmps62;go_wp2_with (first
  | (go_at_call 77;refine(l3kid_from w _ (unhide HS) (unhide HB) hp _ (by omega) (by omega) (by exact hbA _)).mono ?_;rintro e w' ⟨rfl,rfl⟩)
  | (go_at_call 79;refine(l3exprs_from w _ (unhide HS) (unhide HB) hp _ _ (by omega) (by omega) (by omega) (by first | exact hbA _ | exact(hbA _).trans (hb'.mono (by simp)))).mono ?_;rintro e w' ⟨rfl,rfl⟩)
  | (go_at_call 81;refine(l3many_any _ _).mono ?_;rintro e w' ⟨rfl,rfl⟩)
  | (go_at_call 78;refine(l3bare_any _ _ _ _ _ _ _ _ _ _ _ _ _ _ _ _ _ _).mono ?_;rintro e w' ⟨rfl,hb'⟩))
 all_goals
  go_ret;have E:=unhide HE;refine⟨ret_bool ?_,?_⟩
  ·rw[E];first | (simp[*];done) | (simp[*]<;>omega)
  ·first | exact hbA _ | exact(hbA _).trans (hb'.mono (by simp))
theorem ex32 (a:Option Addr)(ns:List NodeD)(c p:Nat)(S:Nat->Prop)(w:World)(hs:NodesAt w S a ns)(hB:∀ b,S b->b<w.heap.size)(hp:p<ns.length)(hkl:(nd ns p).kids.length<=200)(hk:(nd ns p).kind=32) :
  Calls Tryz.prog 62 #[.slice a ns.length c,.int .i64 p] w fun e w'=>e=.returned (.bool (sExpression ns p))/\Below w.heap.size w w':=by
 have hbA:∀ o,Below w.heap.size w (w.alloc o):=fun o=>(Below.refl _ _).alloc (Nat.le_refl _) o;have E:sExpression ns p=exArm ns p (nd ns p) (nd ns p).kids.length 32:=by rw[sExpression,hk]
 have hn:=hs.1;obtain⟨b,off,ea,hb,hcc⟩:=hs.2 (by omega);have N:NodeCells w S b (off+p * 8) (nd ns p):=hcc p hp;clear hcc;generalize nd ns p=n at *;obtain⟨kind,line,op,num,flt,str,refs,kids⟩:=n;obtain⟨ra,rc,hr,hrI⟩:=N.refs;obtain⟨ka,kc,hkk,hkI⟩:=N.kids;have c0:=N.kind;have c1:=N.line;have c2:=N.op;have c3:=N.num;have c4:=N.flt;have c5:=N.str;have hss:=N.strs;have hrl:=hrI.1;simp only[exArm,sBare]at E;dsimp only at E hk hkl hr hrl hkk c0 c1 c2 c3 c4 c5 hss;clear N hrI hkI;subst hk;generalize kids.length=kl at *;generalize refs.length=rl at *;subst ea;have hK:(0:Int)<=kl:=by omega
 have hK2:(kl:Int)<=200:=by omega
 have HE:=hide E;clear E;have HS:=hide hs;have HB:=hide hB;clear hs hB;go_enter Tryz.func62,Tryz.ntmps62;go_wp2_with (first
  | (go_at_call 77;refine(l3kid_from w _ (unhide HS) (unhide HB) hp _ (by omega) (by omega) (by exact hbA _)).mono ?_;rintro e w' ⟨rfl,rfl⟩)
  | (go_at_call 79;refine(l3exprs_from w _ (unhide HS) (unhide HB) hp _ _ (by omega) (by omega) (by omega) (by first | exact hbA _ | exact(hbA _).trans (hb'.mono (by simp)))).mono ?_;rintro e w' ⟨rfl,rfl⟩)
  | (go_at_call 81;refine(l3many_any _ _).mono ?_;rintro e w' ⟨rfl,rfl⟩)
  | (go_at_call 78;refine(l3bare_any _ _ _ _ _ _ _ _ _ _ _ _ _ _ _ _ _ _).mono ?_;rintro e w' ⟨rfl,hb'⟩))
 all_goals
  go_ret;have E:=unhide HE;refine⟨ret_bool ?_,?_⟩
  ·rw[E];first | (simp[*];done) | (simp[*]<;>omega)
  ·first | exact hbA _ | exact(hbA _).trans (hb'.mono (by simp))
theorem ex34 (a:Option Addr)(ns:List NodeD)(c p:Nat)(S:Nat->Prop)(w:World)(hs:NodesAt w S a ns)(hB:∀ b,S b->b<w.heap.size)(hp:p<ns.length)(hkl:(nd ns p).kids.length<=200)(hk:(nd ns p).kind=34) :
  Calls Tryz.prog 62 #[.slice a ns.length c,.int .i64 p] w fun e w'=>e=.returned (.bool (sExpression ns p))/\Below w.heap.size w w':=by
 have hbA:∀ o,Below w.heap.size w (w.alloc o):=fun o=>(Below.refl _ _).alloc (Nat.le_refl _) o;have E:sExpression ns p=exArm ns p (nd ns p) (nd ns p).kids.length 34:=by rw[sExpression,hk]
 have hn:=hs.1;obtain⟨b,off,ea,hb,hcc⟩:=hs.2 (by omega);have N:NodeCells w S b (off+p * 8) (nd ns p):=hcc p hp;clear hcc;generalize nd ns p=n at *;obtain⟨kind,line,op,num,flt,str,refs,kids⟩:=n;obtain⟨ra,rc,hr,hrI⟩:=N.refs;obtain⟨ka,kc,hkk,hkI⟩:=N.kids;have c0:=N.kind;have c1:=N.line;have c2:=N.op;have c3:=N.num;have c4:=N.flt;have c5:=N.str;have hss:=N.strs;have hrl:=hrI.1;simp only[exArm,sBare]at E;dsimp only at E hk hkl hr hrl hkk c0 c1 c2 c3 c4 c5 hss;clear N hrI hkI;subst hk;generalize kids.length=kl at *;generalize refs.length=rl at *;subst ea;have hK:(0:Int)<=kl:=by omega
 have hK2:(kl:Int)<=200:=by omega
 have HE:=hide E;clear E;have HS:=hide hs;have HB:=hide hB;clear hs hB;go_enter Tryz.func62,Tryz.ntmps62;go_wp2_with (first
  | (go_at_call 77;refine(l3kid_from w _ (unhide HS) (unhide HB) hp _ (by omega) (by omega) (by exact hbA _)).mono ?_;rintro e w' ⟨rfl,rfl⟩)
  | (go_at_call 79;refine(l3exprs_from w _ (unhide HS) (unhide HB) hp _ _ (by omega) (by omega) (by omega) (by first | exact hbA _ | exact(hbA _).trans (hb'.mono (by simp)))).mono ?_;rintro e w' ⟨rfl,rfl⟩)
  | (go_at_call 81;refine(l3many_any _ _).mono ?_;rintro e w' ⟨rfl,rfl⟩)
  | (go_at_call 78;refine(l3bare_any _ _ _ _ _ _ _ _ _ _ _ _ _ _ _ _ _ _).mono ?_;rintro e w' ⟨rfl,hb'⟩))
 all_goals
  go_ret;have E:=unhide HE;refine⟨ret_bool ?_,?_⟩
  ·rw[E];first | (simp[*];done) | (simp[*]<;>omega)
  ·first | exact hbA _ | exact(hbA _).trans (hb'.mono (by simp))
theorem ex35 (a:Option Addr)(ns:List NodeD)(c p:Nat)(S:Nat->Prop)(w:World)(hs:NodesAt w S a ns)(hB:∀ b,S b->b<w.heap.size)(hp:p<ns.length)(hkl:(nd ns p).kids.length<=200)(hk:(nd ns p).kind=35) :
  Calls Tryz.prog 62 #[.slice a ns.length c,.int .i64 p] w fun e w'=>e=.returned (.bool (sExpression ns p))/\Below w.heap.size w w':=by
 have hbA:∀ o,Below w.heap.size w (w.alloc o):=fun o=>(Below.refl _ _).alloc (Nat.le_refl _) o;have E:sExpression ns p=exArm ns p (nd ns p) (nd ns p).kids.length 35:=by rw[sExpression,hk]
 have hn:=hs.1;obtain⟨b,off,ea,hb,hcc⟩:=hs.2 (by omega);have N:NodeCells w S b (off+p * 8) (nd ns p):=hcc p hp;clear hcc;generalize nd ns p=n at *;obtain⟨kind,line,op,num,flt,str,refs,kids⟩:=n;obtain⟨ra,rc,hr,hrI⟩:=N.refs;obtain⟨ka,kc,hkk,hkI⟩:=N.kids;have c0:=N.kind;have c1:=N.line;have c2:=N.op;have c3:=N.num;have c4:=N.flt;have c5:=N.str;have hss:=N.strs;have hrl:=hrI.1;simp only[exArm,sBare]at E;dsimp only at E hk hkl hr hrl hkk c0 c1 c2 c3 c4 c5 hss;clear N hrI hkI;subst hk;generalize kids.length=kl at *;generalize refs.length=rl at *;subst ea;have hK:(0:Int)<=kl:=by omega
 have hK2:(kl:Int)<=200:=by omega
 have HE:=hide E;clear E;have HS:=hide hs;have HB:=hide hB;clear hs hB;go_enter Tryz.func62,Tryz.ntmps62;go_wp2_with (first
  | (go_at_call 77;refine(l3kid_from w _ (unhide HS) (unhide HB) hp _ (by omega) (by omega) (by exact hbA _)).mono ?_;rintro e w' ⟨rfl,rfl⟩)
  | (go_at_call 79;refine(l3exprs_from w _ (unhide HS) (unhide HB) hp _ _ (by omega) (by omega) (by omega) (by first | exact hbA _ | exact(hbA _).trans (hb'.mono (by simp)))).mono ?_;rintro e w' ⟨rfl,rfl⟩)
  | (go_at_call 81;refine(l3many_any _ _).mono ?_;rintro e w' ⟨rfl,rfl⟩)
  | (go_at_call 78;refine(l3bare_any _ _ _ _ _ _ _ _ _ _ _ _ _ _ _ _ _ _).mono ?_;rintro e w' ⟨rfl,hb'⟩))
 all_goals
  go_ret;have E:=unhide HE;refine⟨ret_bool ?_,?_⟩
  ·rw[E];first | (simp[*];done) | (simp[*]<;>omega)
  ·first | exact hbA _ | exact(hbA _).trans (hb'.mono (by simp))
theorem ex38 (a:Option Addr)(ns:List NodeD)(c p:Nat)(S:Nat->Prop)(w:World)(hs:NodesAt w S a ns)(hB:∀ b,S b->b<w.heap.size)(hp:p<ns.length)(hkl:(nd ns p).kids.length<=200)(hk:(nd ns p).kind=38) :
  Calls Tryz.prog 62 #[.slice a ns.length c,.int .i64 p] w fun e w'=>e=.returned (.bool (sExpression ns p))/\Below w.heap.size w w':=by
 have hbA:∀ o,Below w.heap.size w (w.alloc o):=fun o=>(Below.refl _ _).alloc (Nat.le_refl _) o;have E:sExpression ns p=exArm ns p (nd ns p) (nd ns p).kids.length 38:=by rw[sExpression,hk]
 have hn:=hs.1;obtain⟨b,off,ea,hb,hcc⟩:=hs.2 (by omega);have N:NodeCells w S b (off+p * 8) (nd ns p):=hcc p hp;clear hcc;generalize nd ns p=n at *;obtain⟨kind,line,op,num,flt,str,refs,kids⟩:=n;obtain⟨ra,rc,hr,hrI⟩:=N.refs;obtain⟨ka,kc,hkk,hkI⟩:=N.kids;have c0:=N.kind;have c1:=N.line;have c2:=N.op;have c3:=N.num;have c4:=N.flt;have c5:=N.str;have hss:=N.strs;have hrl:=hrI.1;simp only[exArm,sBare]at E;dsimp only at E hk hkl hr hrl hkk c0 c1 c2 c3 c4 c5 hss;clear N hrI hkI;subst hk;generalize kids.length=kl at *;generalize refs.length=rl at *;subst ea;have hK:(0:Int)<=kl:=by omega
 have hK2:(kl:Int)<=200:=by omega
 have HE:=hide E;clear E;have HS:=hide hs;have HB:=hide hB;clear hs hB;go_enter Tryz.func62,Tryz.ntmps62;go_wp2_with (first
  | (go_at_call 77;refine(l3kid_from w _ (unhide HS) (unhide HB) hp _ (by omega) (by omega) (by exact hbA _)).mono ?_;rintro e w' ⟨rfl,rfl⟩)
  | (go_at_call 79;refine(l3exprs_from w _ (unhide HS) (unhide HB) hp _ _ (by omega) (by omega) (by omega) (by first | exact hbA _ | exact(hbA _).trans (hb'.mono (by simp)))).mono ?_;rintro e w' ⟨rfl,rfl⟩)
  | (go_at_call 81;refine(l3many_any _ _).mono ?_;rintro e w' ⟨rfl,rfl⟩)
  | (go_at_call 78;refine(l3bare_any _ _ _ _ _ _ _ _ _ _ _ _ _ _ _ _ _ _).mono ?_;rintro e w' ⟨rfl,hb'⟩))
 all_goals
  go_ret;have E:=unhide HE;refine⟨ret_bool ?_,?_⟩
  ·rw[E];first | (simp[*];done) | (simp[*]<;>omega)
  ·first | exact hbA _ | exact(hbA _).trans (hb'.mono (by simp))
end Go.Proofs.YtofcbekoaghikaaGreatDoor

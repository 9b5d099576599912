import Derived.Test.YtpmeihghljnfeaaDoorPart03
import Derived.Test.YtpmeihghljnfeaaDoorPart04
import Derived.Test.YtpmeihghljnfeaaDoorPart05
import Derived.Deep.LoopGhost
set_option linter.unusedSimpArgs false
set_option linter.unusedVariables false
set_option maxHeartbeats 4000000
set_option maxRecDepth 100000
namespace Go.Proofs.YtpmeihghljnfeaaDoor
open Go.RowKit
attribute [local go_sem] run_store_float
theorem ex20 (a:Option Addr)(ns:List NodeD)(c p:Nat)(S:Nat->Prop)(w:World)(hs:NodesAt w S a ns)(hB:∀ b,S b->b<w.heap.size)(hp:p<ns.length)(hkl:(nd ns p).kids.length<=200)(hk:(nd ns p).kind=20) :
  Calls Tryd.prog 47 #[.slice a ns.length c,.int .i64 p] w fun e w'=>e=.returned (.bool (sExpression ns p))/\Below w.heap.size w w':=by
 have hbA:∀ o,Below w.heap.size w (w.alloc o):=fun o=>(Below.refl _ _).alloc (Nat.le_refl _) o;have E:sExpression ns p=exArm ns p (nd ns p) (nd ns p).kids.length 20:=by rw[sExpression,hk]
 have hn:=hs.1;obtain⟨b,off,ea,hb,hcc⟩:=hs.2 (by omega);have N:NodeCells w S b (off+p * 8) (nd ns p):=hcc p hp;clear hcc;generalize nd ns p=n at *;obtain⟨kind,line,op,num,flt,str,refs,kids⟩:=n;obtain⟨ra,rc,hr,hrI⟩:=N.refs;obtain⟨ka,kc,hkk,hkI⟩:=N.kids;have c0:=N.kind;have c1:=N.line;have c2:=N.op;have c3:=N.num;have c4:=N.flt;have c5:=N.str;have hss:=N.strs;have hrl:=hrI.1;simp only[exArm,sBare]at E;dsimp only at E hk hkl hr hrl hkk c0 c1 c2 c3 c4 c5 hss;clear N hrI hkI;subst hk;generalize kids.length=kl at *;generalize refs.length=rl at *;subst ea;have hK:(0:Int)<=kl:=by omega
 have hK2:(kl:Int)<=200:=by omega
 have HE:=hide E;clear E;have HS:=hide hs;have HB:=hide hB;clear hs hB;go_enter Tryd.func47,Tryd.ntmps47;go_wp2_with (first
  | (go_at_call 71;refine(l3kid_from w _ (unhide HS) (unhide HB) hp _ (by omega) (by omega) (by exact hbA _)).mono ?_;rintro e w' ⟨rfl,rfl⟩)
  | (go_at_call 73;refine(l3exprs_from w _ (unhide HS) (unhide HB) hp _ _ (by omega) (by omega) (by omega) (by first | exact hbA _ | exact(hbA _).trans (hb'.mono (by simp)))).mono ?_;rintro e w' ⟨rfl,rfl⟩)
  | (go_at_call 75;refine(l3many_any _ _).mono ?_;rintro e w' ⟨rfl,rfl⟩)
  | (go_at_call 72;refine(l3bare_any _ _ _ _ _ _ _ _ _ _ _ _ _ _ _ _ _ _).mono ?_;rintro e w' ⟨rfl,hb'⟩))
 all_goals
  go_ret;have E:=unhide HE;refine⟨ret_bool ?_,?_⟩
  ·rw[E];first | (simp[*];done) | (simp[*]<;>omega)
  ·first | exact hbA _ | exact(hbA _).trans (hb'.mono (by simp))
theorem ex21 (a:Option Addr)(ns:List NodeD)(c p:Nat)(S:Nat->Prop)(w:World)(hs:NodesAt w S a ns)(hB:∀ b,S b->b<w.heap.size)(hp:p<ns.length)(hkl:(nd ns p).kids.length<=200)(hk:(nd ns p).kind=21) :
  Calls Tryd.prog 47 #[.slice a ns.length c,.int .i64 p] w fun e w'=>e=.returned (.bool (sExpression ns p))/\Below w.heap.size w w':=by
 have hbA:∀ o,Below w.heap.size w (w.alloc o):=fun o=>(Below.refl _ _).alloc (Nat.le_refl _) o;have E:sExpression ns p=exArm ns p (nd ns p) (nd ns p).kids.length 21:=by rw[sExpression,hk]
 have hn:=hs.1;obtain⟨b,off,ea,hb,hcc⟩:=hs.2 (by omega);have N:NodeCells w S b (off+p * 8) (nd ns p):=hcc p hp;clear hcc;generalize nd ns p=n at *;obtain⟨kind,line,op,num,flt,str,refs,kids⟩:=n;obtain⟨ra,rc,hr,hrI⟩:=N.refs;obtain⟨ka,kc,hkk,hkI⟩:=N.kids;have c0:=N.kind;have c1:=N.line;have c2:=N.op;have c3:=N.num;have c4:=N.flt;have c5:=N.str;have hss:=N.strs;have hrl:=hrI.1;simp only[exArm,sBare]at E;dsimp only at E hk hkl hr hrl hkk c0 c1 c2 c3 c4 c5 hss;clear N hrI hkI;subst hk;generalize kids.length=kl at *;generalize refs.length=rl at *;subst ea;have hK:(0:Int)<=kl:=by omega
 have hK2:(kl:Int)<=200:=by omega
 have HE:=hide E;clear E;have HS:=hide hs;have HB:=hide hB;clear hs hB;go_enter Tryd.func47,Tryd.ntmps47;go_wp2_with (first
  | (go_at_call 71;refine(l3kid_from w _ (unhide HS) (unhide HB) hp _ (by omega) (by omega) (by exact hbA _)).mono ?_;rintro e w' ⟨rfl,rfl⟩)
  | (go_at_call 73;refine(l3exprs_from w _ (unhide HS) (unhide HB) hp _ _ (by omega) (by omega) (by omega) (by first | exact hbA _ | exact(hbA _).trans (hb'.mono (by simp)))).mono ?_;rintro e w' ⟨rfl,rfl⟩)
  | (go_at_call 75;refine(l3many_any _ _).mono ?_;rintro e w' ⟨rfl,rfl⟩)
  | (go_at_call 72;refine(l3bare_any _ _ _ _ _ _ _ _ _ _ _ _ _ _ _ _ _ _).mono ?_;rintro e w' ⟨rfl,hb'⟩))
 all_goals
  go_ret;have E:=unhide HE;refine⟨ret_bool ?_,?_⟩
  ·rw[E];first | (simp[*];done) | (simp[*]<;>omega)
  ·first | exact hbA _ | exact(hbA _).trans (hb'.mono (by simp))
theorem ex22 (a:Option Addr)(ns:List NodeD)(c p:Nat)(S:Nat->Prop)(w:World)(hs:NodesAt w S a ns)(hB:∀ b,S b->b<w.heap.size)(hp:p<ns.length)(hkl:(nd ns p).kids.length<=200)(hk:(nd ns p).kind=22) :
  Calls Tryd.prog 47 #[.slice a ns.length c,.int .i64 p] w fun e w'=>e=.returned (.bool (sExpression ns p))/\Below w.heap.size w w':=by
 have hbA:∀ o,Below w.heap.size w (w.alloc o):=fun o=>(Below.refl _ _).alloc (Nat.le_refl _) o;have E:sExpression ns p=exArm ns p (nd ns p) (nd ns p).kids.length 22:=by rw[sExpression,hk]
 have hn:=hs.1;obtain⟨b,off,ea,hb,hcc⟩:=hs.2 (by omega);have N:NodeCells w S b (off+p * 8) (nd ns p):=hcc p hp;clear hcc;generalize nd ns p=n at *;obtain⟨kind,line,op,num,flt,str,refs,kids⟩:=n;obtain⟨ra,rc,hr,hrI⟩:=N.refs;obtain⟨ka,kc,hkk,hkI⟩:=N.kids;have c0:=N.kind;have c1:=N.line;have c2:=N.op;have c3:=N.num;have c4:=N.flt;have c5:=N.str;have hss:=N.strs;have hrl:=hrI.1;simp only[exArm,sBare]at E;dsimp only at E hk hkl hr hrl hkk c0 c1 c2 c3 c4 c5 hss;clear N hrI hkI;subst hk;generalize kids.length=kl at *;generalize refs.length=rl at *;subst ea;have hK:(0:Int)<=kl:=by omega
 have hK2:(kl:Int)<=200:=by omega
 have HE:=hide E;clear E;have HS:=hide hs;have HB:=hide hB;clear hs hB;go_enter Tryd.func47,Tryd.ntmps47;go_wp2_with (first
  | (go_at_call 71;refine(l3kid_from w _ (unhide HS) (unhide HB) hp _ (by omega) (by omega) (by exact hbA _)).mono ?_;rintro e w' ⟨rfl,rfl⟩)
  | (go_at_call 73;refine(l3exprs_from w _ (unhide HS) (unhide HB) hp _ _ (by omega) (by omega) (by omega) (by first | exact hbA _ | exact(hbA _).trans (hb'.mono (by simp)))).mono ?_;rintro e w' ⟨rfl,rfl⟩)
  | (go_at_call 75;refine(l3many_any _ _).mono ?_;rintro e w' ⟨rfl,rfl⟩)
  | (go_at_call 72;refine(l3bare_any _ _ _ _ _ _ _ _ _ _ _ _ _ _ _ _ _ _).mono ?_;rintro e w' ⟨rfl,hb'⟩))
 all_goals
  go_ret;have E:=unhide HE;refine⟨ret_bool ?_,?_⟩
  ·rw[E];first | (simp[*];done) | (simp[*]<;>omega)
  ·first | exact hbA _ | exact(hbA _).trans (hb'.mono (by simp))
theorem ex37 (a:Option Addr)(ns:List NodeD)(c p:Nat)(S:Nat->Prop)(w:World)(hs:NodesAt w S a ns)(hB:∀ b,S b->b<w.heap.size)(hp:p<ns.length)(hkl:(nd ns p).kids.length<=200)(hk:(nd ns p).kind=37) :
  Calls Tryd.prog 47 #[.slice a ns.length c,.int .i64 p] w fun e w'=>e=.returned (.bool (sExpression ns p))/\Below w.heap.size w w':=by
 have hbA:∀ o,Below w.heap.size w (w.alloc o):=fun o=>(Below.refl _ _).alloc (Nat.le_refl _) o;have E:sExpression ns p=exArm ns p (nd ns p) (nd ns p).kids.length 37:=by rw[sExpression,hk]
 have hn:=hs.1;obtain⟨b,off,ea,hb,hcc⟩:=hs.2 (by omega);have N:NodeCells w S b (off+p * 8) (nd ns p):=hcc p hp;clear hcc;generalize nd ns p=n at *;obtain⟨kind,line,op,num,flt,str,refs,kids⟩:=n;obtain⟨ra,rc,hr,hrI⟩:=N.refs;obtain⟨ka,kc,hkk,hkI⟩:=N.kids;have c0:=N.kind;have c1:=N.line;have c2:=N.op;have c3:=N.num;have c4:=N.flt;have c5:=N.str;have hss:=N.strs;have hrl:=hrI.1;simp only[exArm,sBare]at E;dsimp only at E hk hkl hr hrl hkk c0 c1 c2 c3 c4 c5 hss;clear N hrI hkI;subst hk;generalize kids.length=kl at *;generalize refs.length=rl at *;subst ea;have hK:(0:Int)<=kl:=by omega
 have hK2:(kl:Int)<=200:=by omega
 have HE:=hide E;clear E;have HS:=hide hs;have HB:=hide hB;clear hs hB;go_enter Tryd.func47,Tryd.ntmps47;go_wp2_with (first
  | (go_at_call 71;refine(l3kid_from w _ (unhide HS) (unhide HB) hp _ (by omega) (by omega) (by exact hbA _)).mono ?_;rintro e w' ⟨rfl,rfl⟩)
  | (go_at_call 73;refine(l3exprs_from w _ (unhide HS) (unhide HB) hp _ _ (by omega) (by omega) (by omega) (by first | exact hbA _ | exact(hbA _).trans (hb'.mono (by simp)))).mono ?_;rintro e w' ⟨rfl,rfl⟩)
  | (go_at_call 75;refine(l3many_any _ _).mono ?_;rintro e w' ⟨rfl,rfl⟩)
  | (go_at_call 72;refine(l3bare_any _ _ _ _ _ _ _ _ _ _ _ _ _ _ _ _ _ _).mono ?_;rintro e w' ⟨rfl,hb'⟩))
 all_goals
  go_ret;have E:=unhide HE;refine⟨ret_bool ?_,?_⟩
  ·rw[E];first | (simp[*];done) | (simp[*]<;>omega)
  ·first | exact hbA _ | exact(hbA _).trans (hb'.mono (by simp))
theorem ex23 (a:Option Addr)(ns:List NodeD)(c p:Nat)(S:Nat->Prop)(w:World)(hs:NodesAt w S a ns)(hB:∀ b,S b->b<w.heap.size)(hp:p<ns.length)(hkl:(nd ns p).kids.length<=200)(hk:(nd ns p).kind=23) :
  Calls Tryd.prog 47 #[.slice a ns.length c,.int .i64 p] w fun e w'=>e=.returned (.bool (sExpression ns p))/\Below w.heap.size w w':=by
 have hbA:∀ o,Below w.heap.size w (w.alloc o):=fun o=>(Below.refl _ _).alloc (Nat.le_refl _) o;have E:sExpression ns p=exArm ns p (nd ns p) (nd ns p).kids.length 23:=by rw[sExpression,hk]
 have hn:=hs.1;obtain⟨b,off,ea,hb,hcc⟩:=hs.2 (by omega);have N:NodeCells w S b (off+p * 8) (nd ns p):=hcc p hp;clear hcc;generalize nd ns p=n at *;obtain⟨kind,line,op,num,flt,str,refs,kids⟩:=n;obtain⟨ra,rc,hr,hrI⟩:=N.refs;obtain⟨ka,kc,hkk,hkI⟩:=N.kids;have c0:=N.kind;have c1:=N.line;have c2:=N.op;have c3:=N.num;have c4:=N.flt;have c5:=N.str;have hss:=N.strs;have hrl:=hrI.1;simp only[exArm,sBare]at E;dsimp only at E hk hkl hr hrl hkk c0 c1 c2 c3 c4 c5 hss;clear N hrI hkI;subst hk;generalize kids.length=kl at *;generalize refs.length=rl at *;subst ea;have hK:(0:Int)<=kl:=by omega
 have hK2:(kl:Int)<=200:=by omega
 have HE:=hide E;clear E;have HS:=hide hs;have HB:=hide hB;clear hs hB;go_enter Tryd.func47,Tryd.ntmps47;go_wp2_with (first
  | (go_at_call 71;refine(l3kid_from w _ (unhide HS) (unhide HB) hp _ (by omega) (by omega) (by exact hbA _)).mono ?_;rintro e w' ⟨rfl,rfl⟩)
  | (go_at_call 73;refine(l3exprs_from w _ (unhide HS) (unhide HB) hp _ _ (by omega) (by omega) (by omega) (by first | exact hbA _ | exact(hbA _).trans (hb'.mono (by simp)))).mono ?_;rintro e w' ⟨rfl,rfl⟩)
  | (go_at_call 75;refine(l3many_any _ _).mono ?_;rintro e w' ⟨rfl,rfl⟩)
  | (go_at_call 72;refine(l3bare_any _ _ _ _ _ _ _ _ _ _ _ _ _ _ _ _ _ _).mono ?_;rintro e w' ⟨rfl,hb'⟩))
 all_goals
  go_ret;have E:=unhide HE;refine⟨ret_bool ?_,?_⟩
  ·rw[E];first | (simp[*];done) | (simp[*]<;>omega)
  ·first | exact hbA _ | exact(hbA _).trans (hb'.mono (by simp))
theorem ex24 (a:Option Addr)(ns:List NodeD)(c p:Nat)(S:Nat->Prop)(w:World)(hs:NodesAt w S a ns)(hB:∀ b,S b->b<w.heap.size)(hp:p<ns.length)(hkl:(nd ns p).kids.length<=200)(hk:(nd ns p).kind=24) :
  Calls Tryd.prog 47 #[.slice a ns.length c,.int .i64 p] w fun e w'=>e=.returned (.bool (sExpression ns p))/\Below w.heap.size w w':=by
 have hbA:∀ o,Below w.heap.size w (w.alloc o):=fun o=>(Below.refl _ _).alloc (Nat.le_refl _) o;have E:sExpression ns p=exArm ns p (nd ns p) (nd ns p).kids.length 24:=by rw[sExpression,hk]
 have hn:=hs.1;obtain⟨b,off,ea,hb,hcc⟩:=hs.2 (by omega);have N:NodeCells w S b (off+p * 8) (nd ns p):=hcc p hp;clear hcc;generalize nd ns p=n at *;obtain⟨kind,line,op,num,flt,str,refs,kids⟩:=n;obtain⟨ra,rc,hr,hrI⟩:=N.refs;obtain⟨ka,kc,hkk,hkI⟩:=N.kids;have c0:=N.kind;have c1:=N.line;have c2:=N.op;have c3:=N.num;have c4:=N.flt;have c5:=N.str;have hss:=N.strs;have hrl:=hrI.1;simp only[exArm,sBare,fltNum]at E;dsimp only at E hk hkl hr hrl hkk c0 c1 c2 c3 c4 c5 hss;clear N hrI hkI;subst hk;generalize kids.length=kl at *;generalize refs.length=rl at *;subst ea;have hK:(0:Int)<=kl:=by omega
 have hK2:(kl:Int)<=200:=by omega
 have HE:=hide E;clear E;have HS:=hide hs;have HB:=hide hB;clear hs hB;go_enter Tryd.func47,Tryd.ntmps47;go_wp2_with (first
  | (go_at_call 71;refine(l3kid_from w _ (unhide HS) (unhide HB) hp _ (by omega) (by omega) (by exact hbA _)).mono ?_;rintro e w' ⟨rfl,rfl⟩)
  | (go_at_call 73;refine(l3exprs_from w _ (unhide HS) (unhide HB) hp _ _ (by omega) (by omega) (by omega) (by first | exact hbA _ | exact(hbA _).trans (hb'.mono (by simp)))).mono ?_;rintro e w' ⟨rfl,rfl⟩)
  | (go_at_call 75;refine(l3many_any _ _).mono ?_;rintro e w' ⟨rfl,rfl⟩)
  | (go_at_call 72;refine(l3bare_any _ _ _ _ _ _ _ _ _ _ _ _ _ _ _ _ _ _).mono ?_;rintro e w' ⟨rfl,hb'⟩))
 all_goals
  go_ret;have E:=unhide HE;refine⟨ret_bool ?_,?_⟩
  ·rw[E];first | (simp[*];done) | (simp[*]<;>omega)
  ·first | exact hbA _ | exact(hbA _).trans (hb'.mono (by simp))
theorem ex25 (a:Option Addr)(ns:List NodeD)(c p:Nat)(S:Nat->Prop)(w:World)(hs:NodesAt w S a ns)(hB:∀ b,S b->b<w.heap.size)(hp:p<ns.length)(hkl:(nd ns p).kids.length<=200)(hk:(nd ns p).kind=25) :
  Calls Tryd.prog 47 #[.slice a ns.length c,.int .i64 p] w fun e w'=>e=.returned (.bool (sExpression ns p))/\Below w.heap.size w w':=by
 have hbA:∀ o,Below w.heap.size w (w.alloc o):=fun o=>(Below.refl _ _).alloc (Nat.le_refl _) o;have E:sExpression ns p=exArm ns p (nd ns p) (nd ns p).kids.length 25:=by rw[sExpression,hk]
 have hn:=hs.1;obtain⟨b,off,ea,hb,hcc⟩:=hs.2 (by omega);have N:NodeCells w S b (off+p * 8) (nd ns p):=hcc p hp;clear hcc;generalize nd ns p=n at *;obtain⟨kind,line,op,num,flt,str,refs,kids⟩:=n;obtain⟨ra,rc,hr,hrI⟩:=N.refs;obtain⟨ka,kc,hkk,hkI⟩:=N.kids;have c0:=N.kind;have c1:=N.line;have c2:=N.op;have c3:=N.num;have c4:=N.flt;have c5:=N.str;have hss:=N.strs;have hrl:=hrI.1;simp only[exArm,sBare]at E;dsimp only at E hk hkl hr hrl hkk c0 c1 c2 c3 c4 c5 hss;clear N hrI hkI;subst hk;generalize kids.length=kl at *;generalize refs.length=rl at *;subst ea;have hK:(0:Int)<=kl:=by omega
 have hK2:(kl:Int)<=200:=by omega
 have HE:=hide E;clear E;have HS:=hide hs;have HB:=hide hB;clear hs hB;go_enter Tryd.func47,Tryd.ntmps47;go_wp2_with (first
  | (go_at_call 71;refine(l3kid_from w _ (unhide HS) (unhide HB) hp _ (by omega) (by omega) (by exact hbA _)).mono ?_;rintro e w' ⟨rfl,rfl⟩)
  | (go_at_call 73;refine(l3exprs_from w _ (unhide HS) (unhide HB) hp _ _ (by omega) (by omega) (by omega) (by first | exact hbA _ | exact(hbA _).trans (hb'.mono (by simp)))).mono ?_;rintro e w' ⟨rfl,rfl⟩)
  | (go_at_call 75;refine(l3many_any _ _).mono ?_;rintro e w' ⟨rfl,rfl⟩)
  | (go_at_call 72;refine(l3bare_any _ _ _ _ _ _ _ _ _ _ _ _ _ _ _ _ _ _).mono ?_;rintro e w' ⟨rfl,hb'⟩))
 all_goals
  go_ret;have E:=unhide HE;refine⟨ret_bool ?_,?_⟩
  ·rw[E];first | (simp[*];done) | (simp[*]<;>omega)
  ·first | exact hbA _ | exact(hbA _).trans (hb'.mono (by simp))
theorem ex26 (a:Option Addr)(ns:List NodeD)(c p:Nat)(S:Nat->Prop)(w:World)(hs:NodesAt w S a ns)(hB:∀ b,S b->b<w.heap.size)(hp:p<ns.length)(hkl:(nd ns p).kids.length<=200)(hk:(nd ns p).kind=26) :
  Calls Tryd.prog 47 #[.slice a ns.length c,.int .i64 p] w fun e w'=>e=.returned (.bool (sExpression ns p))/\Below w.heap.size w w':=by
 have hbA:∀ o,Below w.heap.size w (w.alloc o):=fun o=>(Below.refl _ _).alloc (Nat.le_refl _) o;have E:sExpression ns p=exArm ns p (nd ns p) (nd ns p).kids.length 26:=by rw[sExpression,hk]
 have hn:=hs.1;obtain⟨b,off,ea,hb,hcc⟩:=hs.2 (by omega);have N:NodeCells w S b (off+p * 8) (nd ns p):=hcc p hp;clear hcc;generalize nd ns p=n at *;obtain⟨kind,line,op,num,flt,str,refs,kids⟩:=n;obtain⟨ra,rc,hr,hrI⟩:=N.refs;obtain⟨ka,kc,hkk,hkI⟩:=N.kids;have c0:=N.kind;have c1:=N.line;have c2:=N.op;have c3:=N.num;have c4:=N.flt;have c5:=N.str;have hss:=N.strs;have hrl:=hrI.1;simp only[exArm,sBare]at E;dsimp only at E hk hkl hr hrl hkk c0 c1 c2 c3 c4 c5 hss;clear N hrI hkI;subst hk;generalize kids.length=kl at *;generalize refs.length=rl at *;subst ea;have hK:(0:Int)<=kl:=by omega
 have hK2:(kl:Int)<=200:=by omega
 have HE:=hide E;clear E;have HS:=hide hs;have HB:=hide hB;clear hs hB;go_enter Tryd.func47,Tryd.ntmps47;go_wp2_with (first
  | (go_at_call 71;refine(l3kid_from w _ (unhide HS) (unhide HB) hp _ (by omega) (by omega) (by exact hbA _)).mono ?_;rintro e w' ⟨rfl,rfl⟩)
  | (go_at_call 73;refine(l3exprs_from w _ (unhide HS) (unhide HB) hp _ _ (by omega) (by omega) (by omega) (by first | exact hbA _ | exact(hbA _).trans (hb'.mono (by simp)))).mono ?_;rintro e w' ⟨rfl,rfl⟩)
  | (go_at_call 75;refine(l3many_any _ _).mono ?_;rintro e w' ⟨rfl,rfl⟩)
  | (go_at_call 72;refine(l3bare_any _ _ _ _ _ _ _ _ _ _ _ _ _ _ _ _ _ _).mono ?_;rintro e w' ⟨rfl,hb'⟩))
 all_goals
  go_ret;have E:=unhide HE;refine⟨ret_bool ?_,?_⟩
  ·rw[E];first | (simp[*];done) | (simp[*]<;>omega)
  ·first | exact hbA _ | exact(hbA _).trans (hb'.mono (by simp))
theorem ex27 (a:Option Addr)(ns:List NodeD)(c p:Nat)(S:Nat->Prop)(w:World)(hs:NodesAt w S a ns)(hB:∀ b,S b->b<w.heap.size)(hp:p<ns.length)(hkl:(nd ns p).kids.length<=200)(hk:(nd ns p).kind=27) :
  Calls Tryd.prog 47 #[.slice a ns.length c,.int .i64 p] w fun e w'=>e=.returned (.bool (sExpression ns p))/\Below w.heap.size w w':=by
 have hbA:∀ o,Below w.heap.size w (w.alloc o):=fun o=>(Below.refl _ _).alloc (Nat.le_refl _) o;have E:sExpression ns p=exArm ns p (nd ns p) (nd ns p).kids.length 27:=by rw[sExpression,hk]
 have hn:=hs.1;obtain⟨b,off,ea,hb,hcc⟩:=hs.2 (by omega);have N:NodeCells w S b (off+p * 8) (nd ns p):=hcc p hp;clear hcc;generalize nd ns p=n at *;obtain⟨kind,line,op,num,flt,str,refs,kids⟩:=n;obtain⟨ra,rc,hr,hrI⟩:=N.refs;obtain⟨ka,kc,hkk,hkI⟩:=N.kids;have c0:=N.kind;have c1:=N.line;have c2:=N.op;have c3:=N.num;have c4:=N.flt;have c5:=N.str;have hss:=N.strs;have hrl:=hrI.1;simp only[exArm,sBare]at E;dsimp only at E hk hkl hr hrl hkk c0 c1 c2 c3 c4 c5 hss;clear N hrI hkI;subst hk;generalize kids.length=kl at *;generalize refs.length=rl at *;subst ea;have hK:(0:Int)<=kl:=by omega
 have hK2:(kl:Int)<=200:=by omega
 have HE:=hide E;clear E;have HS:=hide hs;have HB:=hide hB;clear hs hB;go_enter Tryd.func47,Tryd.ntmps47;go_wp2_with (first
  | (go_at_call 71;refine(l3kid_from w _ (unhide HS) (unhide HB) hp _ (by omega) (by omega) (by exact hbA _)).mono ?_;rintro e w' ⟨rfl,rfl⟩)
  | (go_at_call 73;refine(l3exprs_from w _ (unhide HS) (unhide HB) hp _ _ (by omega) (by omega) (by omega) (by first | exact hbA _ | exact(hbA _).trans (hb'.mono (by simp)))).mono ?_;rintro e w' ⟨rfl,rfl⟩)
  | (go_at_call 75;refine(l3many_any _ _).mono ?_;rintro e w' ⟨rfl,rfl⟩)
  | (go_at_call 72;refine(l3bare_any _ _ _ _ _ _ _ _ _ _ _ _ _ _ _ _ _ _).mono ?_;rintro e w' ⟨rfl,hb'⟩))
 all_goals
  go_ret;have E:=unhide HE;refine⟨ret_bool ?_,?_⟩
  ·rw[E];first | (simp[*];done) | (simp[*]<;>omega)
  ·first | exact hbA _ | exact(hbA _).trans (hb'.mono (by simp))
theorem ex36 (a:Option Addr)(ns:List NodeD)(c p:Nat)(S:Nat->Prop)(w:World)(hs:NodesAt w S a ns)(hB:∀ b,S b->b<w.heap.size)(hp:p<ns.length)(hkl:(nd ns p).kids.length<=200)(hk:(nd ns p).kind=36) :
  Calls Tryd.prog 47 #[.slice a ns.length c,.int .i64 p] w fun e w'=>e=.returned (.bool (sExpression ns p))/\Below w.heap.size w w':=by
 have hbA:∀ o,Below w.heap.size w (w.alloc o):=fun o=>(Below.refl _ _).alloc (Nat.le_refl _) o;have E:sExpression ns p=exArm ns p (nd ns p) (nd ns p).kids.length 36:=by rw[sExpression,hk]
 have hn:=hs.1;obtain⟨b,off,ea,hb,hcc⟩:=hs.2 (by omega);have N:NodeCells w S b (off+p * 8) (nd ns p):=hcc p hp;clear hcc;generalize nd ns p=n at *;obtain⟨kind,line,op,num,flt,str,refs,kids⟩:=n;obtain⟨ra,rc,hr,hrI⟩:=N.refs;obtain⟨ka,kc,hkk,hkI⟩:=N.kids;have c0:=N.kind;have c1:=N.line;have c2:=N.op;have c3:=N.num;have c4:=N.flt;have c5:=N.str;have hss:=N.strs;have hrl:=hrI.1;simp only[exArm,sBare]at E;dsimp only at E hk hkl hr hrl hkk c0 c1 c2 c3 c4 c5 hss;clear N hrI hkI;subst hk;generalize kids.length=kl at *;generalize refs.length=rl at *;subst ea;have hK:(0:Int)<=kl:=by omega
 have hK2:(kl:Int)<=200:=by omega
 have HE:=hide E;clear E;have HS:=hide hs;have HB:=hide hB;clear hs hB;go_enter Tryd.func47,Tryd.ntmps47;go_wp2_with (first
  | (go_at_call 71;refine(l3kid_from w _ (unhide HS) (unhide HB) hp _ (by omega) (by omega) (by exact hbA _)).mono ?_;rintro e w' ⟨rfl,rfl⟩)
  | (go_at_call 73;refine(l3exprs_from w _ (unhide HS) (unhide HB) hp _ _ (by omega) (by omega) (by omega) (by first | exact hbA _ | exact(hbA _).trans (hb'.mono (by simp)))).mono ?_;rintro e w' ⟨rfl,rfl⟩)
  | (go_at_call 75;refine(l3many_any _ _).mono ?_;rintro e w' ⟨rfl,rfl⟩)
  | (go_at_call 72;refine(l3bare_any _ _ _ _ _ _ _ _ _ _ _ _ _ _ _ _ _ _).mono ?_;rintro e w' ⟨rfl,hb'⟩))
 all_goals
  go_ret;have E:=unhide HE;refine⟨ret_bool ?_,?_⟩
  ·rw[E];first | (simp[*];done) | (simp[*]<;>omega)
  ·first | exact hbA _ | exact(hbA _).trans (hb'.mono (by simp))
attribute [local go_sem] run_store_float
theorem ex28 (a:Option Addr)(ns:List NodeD)(c p:Nat)(S:Nat->Prop)(w:World)(hs:NodesAt w S a ns)(hB:∀ b,S b->b<w.heap.size)(hp:p<ns.length)(hkl:(nd ns p).kids.length<=200)(hk:(nd ns p).kind=28) :
  Calls Tryd.prog 47 #[.slice a ns.length c,.int .i64 p] w fun e w'=>e=.returned (.bool (sExpression ns p))/\Below w.heap.size w w':=by
 have hbA:∀ o,Below w.heap.size w (w.alloc o):=fun o=>(Below.refl _ _).alloc (Nat.le_refl _) o;have E:sExpression ns p=exArm ns p (nd ns p) (nd ns p).kids.length 28:=by rw[sExpression,hk]
 have hn:=hs.1;obtain⟨b,off,ea,hb,hcc⟩:=hs.2 (by omega);have N:NodeCells w S b (off+p * 8) (nd ns p):=hcc p hp;clear hcc;generalize nd ns p=n at *;obtain⟨kind,line,op,num,flt,str,refs,kids⟩:=n;obtain⟨ra,rc,hr,hrI⟩:=N.refs;obtain⟨ka,kc,hkk,hkI⟩:=N.kids;have c0:=N.kind;have c1:=N.line;have c2:=N.op;have c3:=N.num;have c4:=N.flt;have c5:=N.str;have hss:=N.strs;have hrl:=hrI.1;simp only[exArm,sBare]at E;dsimp only at E hk hkl hr hrl hkk c0 c1 c2 c3 c4 c5 hss;clear N hrI hkI;subst hk;generalize kids.length=kl at *;generalize refs.length=rl at *;subst ea;have hK:(0:Int)<=kl:=by omega
 have hK2:(kl:Int)<=200:=by omega
 have HE:=hide E;clear E;have HS:=hide hs;have HB:=hide hB;clear hs hB;go_enter Tryd.func47,Tryd.ntmps47;go_wp2_with (first
  | (go_at_call 71;refine(l3kid_from w _ (unhide HS) (unhide HB) hp _ (by omega) (by omega) (by exact hbA _)).mono ?_;rintro e w' ⟨rfl,rfl⟩)
  | (go_at_call 73;refine(l3exprs_from w _ (unhide HS) (unhide HB) hp _ _ (by omega) (by omega) (by omega) (by first | exact hbA _ | exact(hbA _).trans (hb'.mono (by simp)))).mono ?_;rintro e w' ⟨rfl,rfl⟩)
  | (go_at_call 75;refine(l3many_any _ _).mono ?_;rintro e w' ⟨rfl,rfl⟩)
  | (go_at_call 72;refine(l3bare_any _ _ _ _ _ _ _ _ _ _ _ _ _ _ _ _ _ _).mono ?_;rintro e w' ⟨rfl,hb'⟩))
 all_goals
  go_ret;have E:=unhide HE;refine⟨ret_bool ?_,?_⟩
  ·rw[E];first | (simp[*];done) | (simp[*]<;>omega)
  ·first | exact hbA _ | exact(hbA _).trans (hb'.mono (by simp))
theorem ex29 (a:Option Addr)(ns:List NodeD)(c p:Nat)(S:Nat->Prop)(w:World)(hs:NodesAt w S a ns)(hB:∀ b,S b->b<w.heap.size)(hp:p<ns.length)(hkl:(nd ns p).kids.length<=200)(hk:(nd ns p).kind=29) :
  Calls Tryd.prog 47 #[.slice a ns.length c,.int .i64 p] w fun e w'=>e=.returned (.bool (sExpression ns p))/\Below w.heap.size w w':=by
 have hbA:∀ o,Below w.heap.size w (w.alloc o):=fun o=>(Below.refl _ _).alloc (Nat.le_refl _) o;have E:sExpression ns p=exArm ns p (nd ns p) (nd ns p).kids.length 29:=by rw[sExpression,hk]
 have hn:=hs.1;obtain⟨b,off,ea,hb,hcc⟩:=hs.2 (by omega);have N:NodeCells w S b (off+p * 8) (nd ns p):=hcc p hp;clear hcc;generalize nd ns p=n at *;obtain⟨kind,line,op,num,flt,str,refs,kids⟩:=n;obtain⟨ra,rc,hr,hrI⟩:=N.refs;obtain⟨ka,kc,hkk,hkI⟩:=N.kids;have c0:=N.kind;have c1:=N.line;have c2:=N.op;have c3:=N.num;have c4:=N.flt;have c5:=N.str;have hss:=N.strs;have hrl:=hrI.1;simp only[exArm,sBare]at E;dsimp only at E hk hkl hr hrl hkk c0 c1 c2 c3 c4 c5 hss;clear N hrI hkI;subst hk;generalize kids.length=kl at *;generalize refs.length=rl at *;subst ea;have hK:(0:Int)<=kl:=by omega
 have hK2:(kl:Int)<=200:=by omega
 have HE:=hide E;clear E;have HS:=hide hs;have HB:=hide hB;clear hs hB;go_enter Tryd.func47,Tryd.ntmps47;go_wp2_with (first
  | (go_at_call 71;refine(l3kid_from w _ (unhide HS) (unhide HB) hp _ (by omega) (by omega) (by exact hbA _)).mono ?_;rintro e w' ⟨rfl,rfl⟩)
  | (go_at_call 73;refine(l3exprs_from w _ (unhide HS) (unhide HB) hp _ _ (by omega) (by omega) (by omega) (by first | exact hbA _ | exact(hbA _).trans (hb'.mono (by simp)))).mono ?_;rintro e w' ⟨rfl,rfl⟩)
  | (go_at_call 75;refine(l3many_any _ _).mono ?_;rintro e w' ⟨rfl,rfl⟩)
  | (go_at_call 72;refine(l3bare_any _ _ _ _ _ _ _ _ _ _ _ _ _ _ _ _ _ _).mono ?_;rintro e w' ⟨rfl,hb'⟩))
 all_goals
  go_ret;have E:=unhide HE;refine⟨ret_bool ?_,?_⟩
  ·rw[E];first | (simp[*];done) | (simp[*]<;>omega)
  ·first | exact hbA _ | exact(hbA _).trans (hb'.mono (by simp))
theorem ex30 (a:Option Addr)(ns:List NodeD)(c p:Nat)(S:Nat->Prop)(w:World)(hs:NodesAt w S a ns)(hB:∀ b,S b->b<w.heap.size)(hp:p<ns.length)(hkl:(nd ns p).kids.length<=200)(hk:(nd ns p).kind=30) :
  Calls Tryd.prog 47 #[.slice a ns.length c,.int .i64 p] w fun e w'=>e=.returned (.bool (sExpression ns p))/\Below w.heap.size w w':=by
 have hbA:∀ o,Below w.heap.size w (w.alloc o):=fun o=>(Below.refl _ _).alloc (Nat.le_refl _) o;have E:sExpression ns p=exArm ns p (nd ns p) (nd ns p).kids.length 30:=by rw[sExpression,hk]
 have hn:=hs.1;obtain⟨b,off,ea,hb,hcc⟩:=hs.2 (by omega);have N:NodeCells w S b (off+p * 8) (nd ns p):=hcc p hp;clear hcc;generalize nd ns p=n at *;obtain⟨kind,line,op,num,flt,str,refs,kids⟩:=n;obtain⟨ra,rc,hr,hrI⟩:=N.refs;obtain⟨ka,kc,hkk,hkI⟩:=N.kids;have c0:=N.kind;have c1:=N.line;have c2:=N.op;have c3:=N.num;have c4:=N.flt;have c5:=N.str;have hss:=N.strs;have hrl:=hrI.1;simp only[exArm,sBare]at E;dsimp only at E hk hkl hr hrl hkk c0 c1 c2 c3 c4 c5 hss;clear N hrI hkI;subst hk;generalize kids.length=kl at *;generalize refs.length=rl at *;subst ea;have hK:(0:Int)<=kl:=by omega
 have hK2:(kl:Int)<=200:=by omega
 have HE:=hide E;clear E;have HS:=hide hs;have HB:=hide hB;clear hs hB;go_enter Tryd.func47,Tryd.ntmps47;go_wp2_with (first
  | (go_at_call 71;refine(l3kid_from w _ (unhide HS) (unhide HB) hp _ (by omega) (by omega) (by exact hbA _)).mono ?_;rintro e w' ⟨rfl,rfl⟩)
  | (go_at_call 73;refine(l3exprs_from w _ (unhide HS) (unhide HB) hp _ _ (by omega) (by omega) (by omega) (by first | exact hbA _ | exact(hbA _).trans (hb'.mono (by simp)))).mono ?_;rintro e w' ⟨rfl,rfl⟩)
  | (go_at_call 75;refine(l3many_any _ _).mono ?_;rintro e w' ⟨rfl,rfl⟩)
  | (go_at_call 72;refine(l3bare_any _ _ _ _ _ _ _ _ _ _ _ _ _ _ _ _ _ _).mono ?_;rintro e w' ⟨rfl,hb'⟩))
 all_goals
  go_ret;have E:=unhide HE;refine⟨ret_bool ?_,?_⟩
  ·rw[E];first | (simp[*];done) | (simp[*]<;>omega)
  ·first | exact hbA _ | exact(hbA _).trans (hb'.mono (by simp))
theorem ex33 (a:Option Addr)(ns:List NodeD)(c p:Nat)(S:Nat->Prop)(w:World)(hs:NodesAt w S a ns)(hB:∀ b,S b->b<w.heap.size)(hp:p<ns.length)(hkl:(nd ns p).kids.length<=200)(hk:(nd ns p).kind=33) :
  Calls Tryd.prog 47 #[.slice a ns.length c,.int .i64 p] w fun e w'=>e=.returned (.bool (sExpression ns p))/\Below w.heap.size w w':=by
 have hbA:∀ o,Below w.heap.size w (w.alloc o):=fun o=>(Below.refl _ _).alloc (Nat.le_refl _) o;have E:sExpression ns p=exArm ns p (nd ns p) (nd ns p).kids.length 33:=by rw[sExpression,hk]
 have hn:=hs.1;obtain⟨b,off,ea,hb,hcc⟩:=hs.2 (by omega);have N:NodeCells w S b (off+p * 8) (nd ns p):=hcc p hp;clear hcc;generalize nd ns p=n at *;obtain⟨kind,line,op,num,flt,str,refs,kids⟩:=n;obtain⟨ra,rc,hr,hrI⟩:=N.refs;obtain⟨ka,kc,hkk,hkI⟩:=N.kids;have c0:=N.kind;have c1:=N.line;have c2:=N.op;have c3:=N.num;have c4:=N.flt;have c5:=N.str;have hss:=N.strs;have hrl:=hrI.1;simp only[exArm,sBare]at E;dsimp only at E hk hkl hr hrl hkk c0 c1 c2 c3 c4 c5 hss;clear N hrI hkI;subst hk;generalize kids.length=kl at *;generalize refs.length=rl at *;subst ea;have hK:(0:Int)<=kl:=by omega
 have hK2:(kl:Int)<=200:=by omega
 have HE:=hide E;clear E;have HS:=hide hs;have HB:=hide hB;clear hs hB;go_enter Tryd.func47,Tryd.ntmps47;go_wp2_with (first
  | (go_at_call 71;refine(l3kid_from w _ (unhide HS) (unhide HB) hp _ (by omega) (by omega) (by exact hbA _)).mono ?_;rintro e w' ⟨rfl,rfl⟩)
  | (go_at_call 73;refine(l3exprs_from w _ (unhide HS) (unhide HB) hp _ _ (by omega) (by omega) (by omega) (by first | exact hbA _ | exact(hbA _).trans (hb'.mono (by simp)))).mono ?_;rintro e w' ⟨rfl,rfl⟩)
  | (go_at_call 75;refine(l3many_any _ _).mono ?_;rintro e w' ⟨rfl,rfl⟩)
  | (go_at_call 72;refine(l3bare_any _ _ _ _ _ _ _ _ _ _ _ _ _ _ _ _ _ _).mono ?_;rintro e w' ⟨rfl,hb'⟩))
 all_goals
  go_ret;have E:=unhide HE;refine⟨ret_bool ?_,?_⟩
  ·rw[E];first | (simp[*];done) | (simp[*]<;>omega)
  ·first | exact hbA _ | exact(hbA _).trans (hb'.mono (by simp))
theorem ex31 (a:Option Addr)(ns:List NodeD)(c p:Nat)(S:Nat->Prop)(w:World)(hs:NodesAt w S a ns)(hB:∀ b,S b->b<w.heap.size)(hp:p<ns.length)(hkl:(nd ns p).kids.length<=200)(hk:(nd ns p).kind=31) :
  Calls Tryd.prog 47 #[.slice a ns.length c,.int .i64 p] w fun e w'=>e=.returned (.bool (sExpression ns p))/\Below w.heap.size w w':=by
 have hbA:∀ o,Below w.heap.size w (w.alloc o):=fun o=>(Below.refl _ _).alloc (Nat.le_refl _) o;have E:sExpression ns p=exArm ns p (nd ns p) (nd ns p).kids.length 31:=by rw[sExpression,hk]
 have hn:=hs.1;obtain⟨b,off,ea,hb,hcc⟩:=hs.2 (by omega);have N:NodeCells w S b (off+p * 8) (nd ns p):=hcc p hp;clear hcc;generalize nd ns p=n at *;obtain⟨kind,line,op,num,flt,str,refs,kids⟩:=n;obtain⟨ra,rc,hr,hrI⟩:=N.refs;obtain⟨ka,kc,hkk,hkI⟩:=N.kids;have c0:=N.kind;have c1:=N.line;have c2:=N.op;have c3:=N.num;have c4:=N.flt;have c5:=N.str;have hss:=N.strs;have hrl:=hrI.1;simp only[exArm,sBare]at E;dsimp only at E hk hkl hr hrl hkk c0 c1 c2 c3 c4 c5 hss;clear N hrI hkI;subst hk;generalize kids.length=kl at *;generalize refs.length=rl at *;subst ea;have hK:(0:Int)<=kl:=by omega
 have hK2:(kl:Int)<=200:=by omega
 have HE:=hide E;clear E;have HS:=hide hs;have HB:=hide hB;clear hs hB;go_enter Tryd.func47,Tryd.ntmps47;go_wp2_with (first
  | (go_at_call 71;refine(l3kid_from w _ (unhide HS) (unhide HB) hp _ (by omega) (by omega) (by exact hbA _)).mono ?_;rintro e w' ⟨rfl,rfl⟩)
  | (go_at_call 73;refine(l3exprs_from w _ (unhide HS) (unhide HB) hp _ _ (by omega) (by omega) (by omega) (by first | exact hbA _ | exact(hbA _).trans (hb'.mono (by simp)))).mono ?_;rintro e w' ⟨rfl,rfl⟩)
  | (go_at_call 75;refine(l3many_any _ _).mono ?_;rintro e w' ⟨rfl,rfl⟩)
  | (go_at_call 72;refine(l3bare_any _ _ _ _ _ _ _ _ _ _ _ _ _ _ _ _ _ _).mono ?_;rintro e w' ⟨rfl,hb'⟩))
 all_goals
  go_ret;have E:=unhide HE;refine⟨ret_bool ?_,?_⟩
  ·rw[E];first | (simp[*];done) | (simp[*]<;>omega)
  ·first | exact hbA _ | exact(hbA _).trans (hb'.mono (by simp))
theorem ex32 (a:Option Addr)(ns:List NodeD)(c p:Nat)(S:Nat->Prop)(w:World)(hs:NodesAt w S a ns)(hB:∀ b,S b->b<w.heap.size)(hp:p<ns.length)(hkl:(nd ns p).kids.length<=200)(hk:(nd ns p).kind=32) :
  Calls Tryd.prog 47 #[.slice a ns.length c,.int .i64 p] w fun e w'=>e=.returned (.bool (sExpression ns p))/\Below w.heap.size w w':=by
 have hbA:∀ o,Below w.heap.size w (w.alloc o):=fun o=>(Below.refl _ _).alloc (Nat.le_refl _) o;have E:sExpression ns p=exArm ns p (nd ns p) (nd ns p).kids.length 32:=by rw[sExpression,hk]
 have hn:=hs.1;obtain⟨b,off,ea,hb,hcc⟩:=hs.2 (by omega);have N:NodeCells w S b (off+p * 8) (nd ns p):=hcc p hp;clear hcc;generalize nd ns p=n at *;obtain⟨kind,line,op,num,flt,str,refs,kids⟩:=n;obtain⟨ra,rc,hr,hrI⟩:=N.refs;obtain⟨ka,kc,hkk,hkI⟩:=N.kids;have c0:=N.kind;have c1:=N.line;have c2:=N.op;have c3:=N.num;have c4:=N.flt;have c5:=N.str;have hss:=N.strs;have hrl:=hrI.1;simp only[exArm,sBare]at E;dsimp only at E hk hkl hr hrl hkk c0 c1 c2 c3 c4 c5 hss;clear N hrI hkI;subst hk;generalize kids.length=kl at *;generalize refs.length=rl at *;subst ea;have hK:(0:Int)<=kl:=by omega
 have hK2:(kl:Int)<=200:=by omega
 have HE:=hide E;clear E;have HS:=hide hs;have HB:=hide hB;clear hs hB;go_enter Tryd.func47,Tryd.ntmps47;go_wp2_with (first
  | (go_at_call 71;refine(l3kid_from w _ (unhide HS) (unhide HB) hp _ (by omega) (by omega) (by exact hbA _)).mono ?_;rintro e w' ⟨rfl,rfl⟩)
  | (go_at_call 73;refine(l3exprs_from w _ (unhide HS) (unhide HB) hp _ _ (by omega) (by omega) (by omega) (by first | exact hbA _ | exact(hbA _).trans (hb'.mono (by simp)))).mono ?_;rintro e w' ⟨rfl,rfl⟩)
  | (go_at_call 75;refine(l3many_any _ _).mono ?_;rintro e w' ⟨rfl,rfl⟩)
  | (go_at_call 72;refine(l3bare_any _ _ _ _ _ _ _ _ _ _ _ _ _ _ _ _ _ _).mono ?_;rintro e w' ⟨rfl,hb'⟩))
 all_goals
  go_ret;have E:=unhide HE;refine⟨ret_bool ?_,?_⟩
  ·rw[E];first | (simp[*];done) | (simp[*]<;>omega)
  ·first | exact hbA _ | exact(hbA _).trans (hb'.mono (by simp))
theorem ex34 (a:Option Addr)(ns:List NodeD)(c p:Nat)(S:Nat->Prop)(w:World)(hs:NodesAt w S a ns)(hB:∀ b,S b->b<w.heap.size)(hp:p<ns.length)(hkl:(nd ns p).kids.length<=200)(hk:(nd ns p).kind=34) :
  Calls Tryd.prog 47 #[.slice a ns.length c,.int .i64 p] w fun e w'=>e=.returned (.bool (sExpression ns p))/\Below w.heap.size w w':=by
 have hbA:∀ o,Below w.heap.size w (w.alloc o):=fun o=>(Below.refl _ _).alloc (Nat.le_refl _) o;have E:sExpression ns p=exArm ns p (nd ns p) (nd ns p).kids.length 34:=by rw[sExpression,hk]
 have hn:=hs.1;obtain⟨b,off,ea,hb,hcc⟩:=hs.2 (by omega);have N:NodeCells w S b (off+p * 8) (nd ns p):=hcc p hp;clear hcc;generalize nd ns p=n at *;obtain⟨kind,line,op,num,flt,str,refs,kids⟩:=n;obtain⟨ra,rc,hr,hrI⟩:=N.refs;obtain⟨ka,kc,hkk,hkI⟩:=N.kids;have c0:=N.kind;have c1:=N.line;have c2:=N.op;have c3:=N.num;have c4:=N.flt;have c5:=N.str;have hss:=N.strs;have hrl:=hrI.1;simp only[exArm,sBare]at E;dsimp only at E hk hkl hr hrl hkk c0 c1 c2 c3 c4 c5 hss;clear N hrI hkI;subst hk;generalize kids.length=kl at *;generalize refs.length=rl at *;subst ea;have hK:(0:Int)<=kl:=by omega
 have hK2:(kl:Int)<=200:=by omega
 have HE:=hide E;clear E;have HS:=hide hs;have HB:=hide hB;clear hs hB;go_enter Tryd.func47,Tryd.ntmps47;go_wp2_with (first
  | (go_at_call 71;refine(l3kid_from w _ (unhide HS) (unhide HB) hp _ (by omega) (by omega) (by exact hbA _)).mono ?_;rintro e w' ⟨rfl,rfl⟩)
  | (go_at_call 73;refine(l3exprs_from w _ (unhide HS) (unhide HB) hp _ _ (by omega) (by omega) (by omega) (by first | exact hbA _ | exact(hbA _).trans (hb'.mono (by simp)))).mono ?_;rintro e w' ⟨rfl,rfl⟩)
  | (go_at_call 75;refine(l3many_any _ _).mono ?_;rintro e w' ⟨rfl,rfl⟩)
  | (go_at_call 72;refine(l3bare_any _ _ _ _ _ _ _ _ _ _ _ _ _ _ _ _ _ _).mono ?_;rintro e w' ⟨rfl,hb'⟩))
 all_goals
  go_ret;have E:=unhide HE;refine⟨ret_bool ?_,?_⟩
  ·rw[E];first | (simp[*];done) | (simp[*]<;>omega)
  ·first | exact hbA _ | exact(hbA _).trans (hb'.mono (by simp))
theorem ex35 (a:Option Addr)(ns:List NodeD)(c p:Nat)(S:Nat->Prop)(w:World)(hs:NodesAt w S a ns)(hB:∀ b,S b->b<w.heap.size)(hp:p<ns.length)(hkl:(nd ns p).kids.length<=200)(hk:(nd ns p).kind=35) :
  Calls Tryd.prog 47 #[.slice a ns.length c,.int .i64 p] w fun e w'=>e=.returned (.bool (sExpression ns p))/\Below w.heap.size w w':=by
 have hbA:∀ o,Below w.heap.size w (w.alloc o):=fun o=>(Below.refl _ _).alloc (Nat.le_refl _) o;have E:sExpression ns p=exArm ns p (nd ns p) (nd ns p).kids.length 35:=by rw[sExpression,hk]
 have hn:=hs.1;obtain⟨b,off,ea,hb,hcc⟩:=hs.2 (by omega);have N:NodeCells w S b (off+p * 8) (nd ns p):=hcc p hp;clear hcc;generalize nd ns p=n at *;obtain⟨kind,line,op,num,flt,str,refs,kids⟩:=n;obtain⟨ra,rc,hr,hrI⟩:=N.refs;obtain⟨ka,kc,hkk,hkI⟩:=N.kids;have c0:=N.kind;have c1:=N.line;have c2:=N.op;have c3:=N.num;have c4:=N.flt;have c5:=N.str;have hss:=N.strs;have hrl:=hrI.1;simp only[exArm,sBare]at E;dsimp only at E hk hkl hr hrl hkk c0 c1 c2 c3 c4 c5 hss;clear N hrI hkI;subst hk;generalize kids.length=kl at *;generalize refs.length=rl at *;subst ea;have hK:(0:Int)<=kl:=by omega
 have hK2:(kl:Int)<=200:=by omega
 have HE:=hide E;clear E;have HS:=hide hs;have HB:=hide hB;clear hs hB;go_enter Tryd.func47,Tryd.ntmps47;go_wp2_with (first
  | (go_at_call 71;refine(l3kid_from w _ (unhide HS) (unhide HB) hp _ (by omega) (by omega) (by exact hbA _)).mono ?_;rintro e w' ⟨rfl,rfl⟩)
  | (go_at_call 73;refine(l3exprs_from w _ (unhide HS) (unhide HB) hp _ _ (by omega) (by omega) (by omega) (by first | exact hbA _ | exact(hbA _).trans (hb'.mono (by simp)))).mono ?_;rintro e w' ⟨rfl,rfl⟩)
  | (go_at_call 75;refine(l3many_any _ _).mono ?_;rintro e w' ⟨rfl,rfl⟩)
  | (go_at_call 72;refine(l3bare_any _ _ _ _ _ _ _ _ _ _ _ _ _ _ _ _ _ _).mono ?_;rintro e w' ⟨rfl,hb'⟩))
 all_goals
  go_ret;have E:=unhide HE;refine⟨ret_bool ?_,?_⟩
  ·rw[E];first | (simp[*];done) | (simp[*]<;>omega)
  ·first | exact hbA _ | exact(hbA _).trans (hb'.mono (by simp))
theorem ex38 (a:Option Addr)(ns:List NodeD)(c p:Nat)(S:Nat->Prop)(w:World)(hs:NodesAt w S a ns)(hB:∀ b,S b->b<w.heap.size)(hp:p<ns.length)(hkl:(nd ns p).kids.length<=200)(hk:(nd ns p).kind=38) :
  Calls Tryd.prog 47 #[.slice a ns.length c,.int .i64 p] w fun e w'=>e=.returned (.bool (sExpression ns p))/\Below w.heap.size w w':=by
 have hbA:∀ o,Below w.heap.size w (w.alloc o):=fun o=>(Below.refl _ _).alloc (Nat.le_refl _) o;have E:sExpression ns p=exArm ns p (nd ns p) (nd ns p).kids.length 38:=by rw[sExpression,hk]
 have hn:=hs.1;obtain⟨b,off,ea,hb,hcc⟩:=hs.2 (by omega);have N:NodeCells w S b (off+p * 8) (nd ns p):=hcc p hp;clear hcc;generalize nd ns p=n at *;obtain⟨kind,line,op,num,flt,str,refs,kids⟩:=n;obtain⟨ra,rc,hr,hrI⟩:=N.refs;obtain⟨ka,kc,hkk,hkI⟩:=N.kids;have c0:=N.kind;have c1:=N.line;have c2:=N.op;have c3:=N.num;have c4:=N.flt;have c5:=N.str;have hss:=N.strs;have hrl:=hrI.1;simp only[exArm,sBare]at E;dsimp only at E hk hkl hr hrl hkk c0 c1 c2 c3 c4 c5 hss;clear N hrI hkI;subst hk;generalize kids.length=kl at *;generalize refs.length=rl at *;subst ea;have hK:(0:Int)<=kl:=by omega
 have hK2:(kl:Int)<=200:=by omega
 have HE:=hide E;clear E;have HS:=hide hs;have HB:=hide hB;clear hs hB;go_enter Tryd.func47,Tryd.ntmps47;go_wp2_with (first
  | (go_at_call 71;refine(l3kid_from w _ (unhide HS) (unhide HB) hp _ (by omega) (by omega) (by exact hbA _)).mono ?_;rintro e w' ⟨rfl,rfl⟩)
  | (go_at_call 73;refine(l3exprs_from w _ (unhide HS) (unhide HB) hp _ _ (by omega) (by omega) (by omega) (by first | exact hbA _ | exact(hbA _).trans (hb'.mono (by simp)))).mono ?_;rintro e w' ⟨rfl,rfl⟩)
  | (go_at_call 75;refine(l3many_any _ _).mono ?_;rintro e w' ⟨rfl,rfl⟩)
  | (go_at_call 72;refine(l3bare_any _ _ _ _ _ _ _ _ _ _ _ _ _ _ _ _ _ _).mono ?_;rintro e w' ⟨rfl,hb'⟩))
 all_goals
  go_ret;have E:=unhide HE;refine⟨ret_bool ?_,?_⟩
  ·rw[E];first | (simp[*];done) | (simp[*]<;>omega)
  ·first | exact hbA _ | exact(hbA _).trans (hb'.mono (by simp))
attribute [local go_sem] run_store_float
theorem l3statement_any (a:Option Addr)(ns:List NodeD)(c p:Nat)(S:Nat->Prop)(w:World)(hs:NodesAt w S a ns)(hB:∀ b,S b->b<w.heap.size)(hp:p<ns.length)(hkl:(nd ns p).kids.length<=200)(h1:1<=(nd ns p).kind)(h2:(nd ns p).kind<=14) :
  Calls Tryd.prog 46 #[.slice a ns.length c,.int .i64 p] w fun e w'=>e=.returned (.bool (sStatement ns p))/\Below w.heap.size w w':=by
 have h:(nd ns p).kind=1\/(nd ns p).kind=2\/(nd ns p).kind=3\/(nd ns p).kind=4\/(nd ns p).kind=5\/(nd ns p).kind=6\/(nd ns p).kind=7\/(nd ns p).kind=8\/(nd ns p).kind=9\/(nd ns p).kind=10\/(nd ns p).kind=11\/(nd ns p).kind=12\/(nd ns p).kind=13\/(nd ns p).kind=14:=by omega
 rcases h with h | h | h | h | h | h | h | h | h | h | h | h | h | h
 ·exact st1 a ns c p S w hs hB hp hkl h
 ·exact st2 a ns c p S w hs hB hp hkl h
 ·exact st3 a ns c p S w hs hB hp hkl h
 ·exact st4 a ns c p S w hs hB hp hkl h
 ·exact st5 a ns c p S w hs hB hp hkl h
 ·exact st6 a ns c p S w hs hB hp hkl h
 ·exact st7 a ns c p S w hs hB hp hkl h
 ·exact st8 a ns c p S w hs hB hp hkl h
 ·exact st9 a ns c p S w hs hB hp hkl h
 ·exact st10 a ns c p S w hs hB hp hkl h
 ·exact st11 a ns c p S w hs hB hp hkl h
 ·exact st12 a ns c p S w hs hB hp hkl h
 ·exact st13 a ns c p S w hs hB hp hkl h
 ·exact st14 a ns c p S w hs hB hp hkl h
theorem exArm_other (ns:List NodeD)(p:Nat)(n:NodeD)(k kind:Int)(h:kind<20\/38<kind):exArm ns p n k kind=false:=by
 unfold exArm;split<;>first | rfl | omega
theorem exOther (a:Option Addr)(ns:List NodeD)(c p:Nat)(S:Nat->Prop)(w:World)(hs:NodesAt w S a ns)(hB:∀ b,S b->b<w.heap.size)(hp:p<ns.length)(hkl:(nd ns p).kids.length<=200)(hk:(nd ns p).kind<20\/38<(nd ns p).kind) :
  Calls Tryd.prog 47 #[.slice a ns.length c,.int .i64 p] w fun e w'=>e=.returned (.bool (sExpression ns p))/\Below w.heap.size w w':=by
 have hbA:∀ o,Below w.heap.size w (w.alloc o):=fun o=>(Below.refl _ _).alloc (Nat.le_refl _) o;have E:sExpression ns p=false:=exArm_other _ _ _ _ _ hk;have hn:=hs.1;obtain⟨b,off,ea,hb,hcc⟩:=hs.2 (by omega);have N:NodeCells w S b (off+p * 8) (nd ns p):=hcc p hp;clear hcc;generalize nd ns p=n at *;obtain⟨kind,line,op,num,flt,str,refs,kids⟩:=n;obtain⟨ra,rc,hr,hrI⟩:=N.refs;obtain⟨ka,kc,hkk,hkI⟩:=N.kids;have c0:=N.kind;have c1:=N.line;have c2:=N.op;have c3:=N.num;have c4:=N.flt;have c5:=N.str;dsimp only at hk hkl hr hkk c0 c1 c2 c3 c4 c5;clear N hrI hkI;have n20:¬kind=20:=by omega
 have n21:¬kind=21:=by omega
 have n22:¬kind=22:=by omega
 have n23:¬kind=23:=by omega
 have n24:¬kind=24:=by omega
 have n25:¬kind=25:=by omega
 have n26:¬kind=26:=by omega
 have n27:¬kind=27:=by omega
 have n28:¬kind=28:=by omega
 have n29:¬kind=29:=by omega
 have n30:¬kind=30:=by omega
 have n31:¬kind=31:=by omega
 have n32:¬kind=32:=by omega
 have n33:¬kind=33:=by omega
 have n34:¬kind=34:=by omega
 have n35:¬kind=35:=by omega
 have n36:¬kind=36:=by omega
 have n37:¬kind=37:=by omega
 have n38:¬kind=38:=by omega
 clear hk;generalize kids.length=kl at *;generalize refs.length=rl at *;subst ea;have hK:(0:Int)<=kl:=by omega
 have hK2:(kl:Int)<=200:=by omega
 have HE:=hide E;clear E;have HS:=hide hs;have HB:=hide hB;clear hs hB;go_enter Tryd.func47,Tryd.ntmps47;go_wp2_with (first
  | (go_at_call 73;refine(l3exprs_from w _ (unhide HS) (unhide HB) hp _ _ (by omega) (by omega) (by omega) (by exact hbA _)).mono ?_;rintro e w' ⟨rfl,rfl⟩))
 all_goals
  go_ret;exact⟨ret_bool (unhide HE).symm,hbA _⟩
theorem l3expression_any (a:Option Addr)(ns:List NodeD)(c p:Nat)(S:Nat->Prop)(w:World)(hs:NodesAt w S a ns)(hB:∀ b,S b->b<w.heap.size)(hp:p<ns.length)(hkl:(nd ns p).kids.length<=200) :
  Calls Tryd.prog 47 #[.slice a ns.length c,.int .i64 p] w fun e w'=>e=.returned (.bool (sExpression ns p))/\Below w.heap.size w w':=by
 have h:(nd ns p).kind=20\/(nd ns p).kind=21\/(nd ns p).kind=22\/(nd ns p).kind=23\/(nd ns p).kind=24\/(nd ns p).kind=25\/(nd ns p).kind=26\/(nd ns p).kind=27\/(nd ns p).kind=28\/(nd ns p).kind=29\/(nd ns p).kind=30\/(nd ns p).kind=31\/(nd ns p).kind=32\/(nd ns p).kind=33\/(nd ns p).kind=34\/(nd ns p).kind=35\/(nd ns p).kind=36\/(nd ns p).kind=37\/(nd ns p).kind=38\/((nd ns p).kind<20\/38<(nd ns p).kind):=by omega
 rcases h with h | h | h | h | h | h | h | h | h | h | h | h | h | h | h | h | h | h | h | h
 ·exact ex20 a ns c p S w hs hB hp hkl h
 ·exact ex21 a ns c p S w hs hB hp hkl h
 ·exact ex22 a ns c p S w hs hB hp hkl h
 ·exact ex23 a ns c p S w hs hB hp hkl h
 ·exact ex24 a ns c p S w hs hB hp hkl h
 ·exact ex25 a ns c p S w hs hB hp hkl h
 ·exact ex26 a ns c p S w hs hB hp hkl h
 ·exact ex27 a ns c p S w hs hB hp hkl h
 ·exact ex28 a ns c p S w hs hB hp hkl h
 ·exact ex29 a ns c p S w hs hB hp hkl h
 ·exact ex30 a ns c p S w hs hB hp hkl h
 ·exact ex31 a ns c p S w hs hB hp hkl h
 ·exact ex32 a ns c p S w hs hB hp hkl h
 ·exact ex33 a ns c p S w hs hB hp hkl h
 ·exact ex34 a ns c p S w hs hB hp hkl h
 ·exact ex35 a ns c p S w hs hB hp hkl h
 ·exact ex36 a ns c p S w hs hB hp hkl h
 ·exact ex37 a ns c p S w hs hB hp hkl h
 ·exact ex38 a ns c p S w hs hB hp hkl h
 ·exact exOther a ns c p S w hs hB hp hkl h
theorem l3statement_from {a:Option Addr}{ns:List NodeD}{c p:Nat}{S:Nat->Prop}(w W:World)(hs:NodesAt w S a ns)(hB:∀ b,S b->b<w.heap.size)(hp:p<ns.length)(hkl:(nd ns p).kids.length<=200)(h1:1<=(nd ns p).kind)(h2:(nd ns p).kind<=14)(hW:Below w.heap.size w W) :
  Calls Tryd.prog 46 #[.slice a ns.length c,.int .i64 p] W fun e w'=>e=.returned (.bool (sStatement ns p))/\Below W.heap.size W w':=
 l3statement_any a ns c p S W (hs.keep hW hB) (fun b h=>Nat.lt_of_lt_of_le (hB b h) hW.size) hp hkl h1 h2
theorem l3expression_from {a:Option Addr}{ns:List NodeD}{c p:Nat}{S:Nat->Prop}(w W:World)(hs:NodesAt w S a ns)(hB:∀ b,S b->b<w.heap.size)(hp:p<ns.length)(hkl:(nd ns p).kids.length<=200)(hW:Below w.heap.size w W) :
  Calls Tryd.prog 47 #[.slice a ns.length c,.int .i64 p] W fun e w'=>e=.returned (.bool (sExpression ns p))/\Below W.heap.size W w':=
 l3expression_any a ns c p S W (hs.keep hW hB) (fun b h=>Nat.lt_of_lt_of_le (hB b h) hW.size) hp hkl
theorem l3shape_any (a:Option Addr)(ns:List NodeD)(c p:Nat)(S:Nat->Prop)(w:World)(hs:NodesAt w S a ns)(hB:∀ b,S b->b<w.heap.size)(hp:p<ns.length) :
  Calls Tryd.prog 25 #[.slice a ns.length c,.int .i64 p] w fun e w'=>e=.returned (.bool (sShape ns p))/\Below w.heap.size w w':=by
 have hbA:∀ o,Below w.heap.size w (w.alloc o):=fun o=>(Below.refl _ _).alloc (Nat.le_refl _) o;have hn:=hs.1;obtain⟨b,off,ea,hb,hcc⟩:=hs.2 (by omega);have N:NodeCells w S b (off+p * 8) (nd ns p):=hcc p hp;clear hcc;have HS:=hide hs;have HB:=hide hB;clear hs;obtain⟨ra,rc,hr,hrI⟩:=N.refs;obtain⟨ka,kc,hkk,hkI⟩:=N.kids;have c0:=N.kind;have c1:=N.line;have c2:=N.op;have c3:=N.num;have c4:=N.flt;have c5:=N.str;clear N hrI;have hkl:=hkI.1;by_cases q1:200<(nd ns p).kids.length
 ·have E:Hid (sShape ns p=false):=by
   show _=_;have:¬nkids ns p<=200:=by unfold nkids;omega
   simp[sShape,this]
  clear HS HB hB hkI;generalize nd ns p=n at *;subst ea;go_enter Tryd.func25,Tryd.ntmps25;go_wp2_with fail
  go_ret;exact⟨ret_bool (unhide E).symm,hbA _⟩
 have E:sShape ns p=(allFrom (fun i=>kidOk p (kidI (nd ns p) i)) 0 (nd ns p).kids.length &&
   (if isStat (nd ns p).kind then decide (1<=(nd ns p).line)&&decide ((nd ns p).line<=100000)&&sStatement ns p else(nd ns p).line==0&&sExpression ns p)):=by
  have h2:decide ((nd ns p).kids.length<=200)=true:=by simp;omega
  show((decide ((nd ns p).kids.length<=200))&&_&&_)=_;rw[h2,Bool.true_and];rfl
 have HE:=hide E;have HST:Hid (∀ W,Below w.heap.size w W->1<=(nd ns p).kind->(nd ns p).kind<=14->Calls Tryd.prog 46 #[.slice (some ⟨b,off,none⟩) ns.length c,.int .i64 p] W fun e w'=>e=.returned (.bool (sStatement ns p))/\Below W.heap.size W w'):=
  fun W hW h1 h2=>by subst ea;exact l3statement_from w W (unhide HS) (unhide HB) hp (by omega) h1 h2 hW
 have HEX:Hid (∀ W,Below w.heap.size w W->Calls Tryd.prog 47 #[.slice (some ⟨b,off,none⟩) ns.length c,.int .i64 p] W fun e w'=>e=.returned (.bool (sExpression ns p))/\Below W.heap.size W w'):=
  fun W hW=>by subst ea;exact l3expression_from w W (unhide HS) (unhide HB) hp (by omega) hW
 clear E;generalize sStatement ns p=sst at *;generalize sExpression ns p=sex at *;generalize sShape ns p=ssh at *;generalize nd ns p=n at *;obtain⟨kind,line,op,num,flt,str,refs,kids⟩:=n;dsimp only at hr hkk hkI hkl q1 c0 c1 c2 c3 c4 c5;subst ea;have hq:(decide (200<kids.length))=false:=by simp;omega
 have hS2:∀ b,S b->b<w.heap.size:=unhide HB;clear hB;go_enter Tryd.func25,Tryd.ntmps25;go_wp2_with fail
 go_loop [19] (fun i=>∃(k:Nat),k<=kids.length/\i=.int .i64 k/\Hid (∀ j,0<=j->j<k->kidOk p (kids[j]?.getD 0)=true)) (fun i=>kids.length-(intOf i).toNat)
 case atStart=>exact⟨0,by omega,rfl,fun j h1 h2=>absurd h2 (Nat.not_lt_zero _)⟩
 case round=>
  obtain⟨k,hk,rfl,hall⟩:=hrel;by_cases hlt:k<kids.length
  ·obtain⟨b2,off2,rfl,hb2,hc2⟩:=hkI.2 (by omega);have hcl:w.cell? ⟨b2,off2+k,none⟩=some (.int .i64 (kids[k]?.getD 0)):=hc2 k hlt;have hlt2:b2<w.heap.size:=hS2 b2 hb2;clear hc2 hkI hS2;by_cases r1:kids[k]?.getD 0<0
   ·have HR:Hid (kidOk p (kids[k]?.getD 0)=false):=by show _=_;simp[kidOk];omega
    have HR2:=HR;generalize kids[k]?.getD 0=x at hcl r1 HR;go_wp2_with fail
    go_ret;have E:ssh=(allFrom (fun i=>kidOk p (kids[i]?.getD 0)) 0 kids.length&&(if isStat kind then decide (1<=line)&&decide (line<=100000)&&sst else line==0&&sex)):=unhide HE;exact⟨ret_bool (by rw[E,allFrom_false (q:=fun i=>kidOk p (kids[i]?.getD 0)) (Nat.zero_le k) hlt (unhide HR2)];rfl),hbA _⟩
   ·by_cases r2:(p:Int)<=kids[k]?.getD 0
    ·have HR:Hid (kidOk p (kids[k]?.getD 0)=false):=by show _=_;simp[kidOk];omega
     have HR2:=HR;generalize kids[k]?.getD 0=x at hcl r1 r2 HR;go_wp2_with fail
     go_ret;have E:ssh=(allFrom (fun i=>kidOk p (kids[i]?.getD 0)) 0 kids.length&&(if isStat kind then decide (1<=line)&&decide (line<=100000)&&sst else line==0&&sex)):=unhide HE;exact⟨ret_bool (by rw[E,allFrom_false (q:=fun i=>kidOk p (kids[i]?.getD 0)) (Nat.zero_le k) hlt (unhide HR2)];rfl),hbA _⟩
    ·have HR:Hid (kidOk p (kids[k]?.getD 0)=true):=by show _=_;simp[kidOk];omega
     have HR2:=HR;generalize kids[k]?.getD 0=x at hcl r1 r2 HR;go_wp2_with fail
     go_round
     case rel=>
      refine⟨k+1,by omega,by go_num,fun j h1 h2=>?_⟩;by_cases e:j=k
      ·subst e;exact unhide HR2
      ·exact hall.out j h1 (by omega)
     case measure=>simp[intOf];omega
  ·have E:ssh=(allFrom (fun i=>kidOk p (kids[i]?.getD 0)) 0 kids.length&&(if isStat kind then decide (1<=line)&&decide (line<=100000)&&sst else line==0&&sex)):=unhide HE;rw[allFrom_true (fun j h1 h2=>hall.out j h1 (by omega)),Bool.true_and]at E;have HE2:=hide E;clear E HE hkI hS2;go_wp2_with fail
   refine(l3stat_any _ _).mono ?_;rintro e w' ⟨rfl,rfl⟩;cases hst:isStat kind
   ·have E:=unhide HE2;rw[hst]at E;simp only[Bool.false_eq_true,if_false]at E;have HE3:=hide E;clear E HE2 hst;cases hl0:line==0
    ·go_wp2_with fail
     go_ret;have E:=unhide HE3;exact⟨ret_bool (by rw[E,hl0];rfl),hbA _⟩
    ·go_wp2_with fail
     refine(unhide HEX _ (hbA _)).mono ?_;rintro e w' ⟨rfl,hb'⟩;go_wp2_with fail
     go_ret;have E:=unhide HE3;exact⟨ret_bool (by rw[E,hl0];rfl),(hbA _).trans (hb'.mono (by simp))⟩
   ·have hk12:1<=kind/\kind<=14:=by simpa[isStat]using hst
    have E:=unhide HE2;rw[hst]at E;simp only[if_true]at E;have HE3:=hide E;have HK:=hide hk12;clear E HE2 hst hk12;by_cases l1:1<=line
    ·by_cases l2:line<=100000
     ·have d1:decide (1<=line)=true:=by simp;omega
      have d2:decide (line<=100000)=true:=by simp;omega
      go_wp2_with fail
      refine(unhide HST _ (hbA _) (unhide HK).1 (unhide HK).2).mono ?_;rintro e w' ⟨rfl,hb'⟩;go_wp2_with fail
      go_ret;have E:=unhide HE3;exact⟨ret_bool (by rw[E,d1,d2];rfl),(hbA _).trans (hb'.mono (by simp))⟩
     ·have d2:decide (line<=100000)=false:=by simp;omega
      go_wp2_with fail
      go_ret;have E:=unhide HE3;exact⟨ret_bool (by rw[E,d2];simp),hbA _⟩
    ·have d1:decide (1<=line)=false:=by simp;omega
     go_wp2_with fail
     go_ret;have E:=unhide HE3;exact⟨ret_bool (by rw[E,d1];simp),hbA _⟩
def fnD (l:List FnD)(f:Nat):FnD:=l[f]?.getD FnD.z
theorem l3name_any (s:ByteArray)(least:Int)(w:World):Calls Tryd.prog 44 #[.string s,.int .i64 least] w fun e w'=>e=.returned (.bool (sName s least))/\w'=w:=by
 by_cases h1:least<=s.size
 ·by_cases h2:(s.size:Int)<=40
  ·go_enter Tryd.func44,Tryd.ntmps44
   go_wp2
   go_ret;exact⟨by simp[sName];omega,rfl⟩
  ·go_enter Tryd.func44,Tryd.ntmps44
   go_wp2
   go_ret;exact⟨by simp[sName];omega,rfl⟩
 ·go_enter Tryd.func44,Tryd.ntmps44
  go_wp2
  go_ret;exact⟨by simp[sName];omega,rfl⟩
theorem l3fault_any (x f n:Int)(w:World):Calls Tryd.prog 23 #[.int .i64 x,.int .i64 f,.int .i64 n] w fun e w'=>e=.returned (.agg #[.int .i64 x,.int .i64 f,.int .i64 n])/\Below w.heap.size w w':=by
 go_enter Tryd.func23,Tryd.ntmps23
 go_wp2
 exact bodyPost_ret (v:=.agg #[.int .i64 x,.int .i64 f,.int .i64 n]) (by simp[results,Tryd.results23,go_sem]) rfl ⟨rfl,by repeat (first | refine Below.alloc ?_ (by simp<;>omega) _ | exact Below.refl _ _)⟩
def headBad (x:FnD)(f:Nat):Prop:=
 x.nodes.length=0\/200<x.vars.length\/200<x.ups.length\/x.params<0\/(x.vars.length:Int)<x.params\/x.line<0\/100000<x.line\/sName x.name 0=false\/(f=0/\(0<x.params\/0<x.ups.length))
theorem sHead_bad {l:List FnD}{f:Nat}(h:headBad (fnD l f) f):sHead l f=false:=by
 have e:fnD l f=l[f]?.getD FnD.z:=rfl;rw[e]at h;unfold sHead;generalize l[f]?.getD FnD.z=x at *;dsimp only;rcases h with h | h | h | h | h | h | h | h | ⟨h1,h2⟩
 ·simp[h]
 ·have:¬x.vars.length<=200:=by omega
  simp[this]
 ·have:¬x.ups.length<=200:=by omega
  simp[this]
 ·have:¬0<=x.params:=by omega
  simp[this]
 ·have:¬x.params<=x.vars.length:=by omega
  simp[this]
 ·have:¬0<=x.line:=by omega
  simp[this]
 ·have:¬x.line<=100000:=by omega
  simp[this]
 ·simp[h]
 ·have:(f==0&&(decide (0<x.params)||decide (0<x.ups.length)))=true:=by
   subst h1;rcases h2 with h2 | h2<;>simp[h2]
  simp[this]
theorem sHead_good {l:List FnD}{f:Nat}(h:¬headBad (fnD l f) f):sHead l f=allFrom (fun i=>sName ((fnD l f).vars[i]?.getD ByteArray.empty) 1) 0 (fnD l f).vars.length:=by
 have e:fnD l f=l[f]?.getD FnD.z:=rfl;rw[e]at h ⊢;unfold sHead;generalize l[f]?.getD FnD.z=x at *;dsimp only;unfold headBad at h;simp only[not_or,not_and]at h;obtain⟨h1,h2,h3,h4,h5,h6,h7,h8,h9⟩:=h;have e1:decide (x.nodes.length≠0)=true:=by simp;exact fun h=>h1 (by simp[h])
 have e2:decide (x.vars.length<=200)=true:=by simp;omega
 have e3:decide (x.ups.length<=200)=true:=by simp;omega
 have e4:decide (0<=x.params)=true:=by simp;omega
 have e5:decide (x.params<=x.vars.length)=true:=by simp;omega
 have e6:decide (0<=x.line)=true:=by simp;omega
 have e7:decide (x.line<=100000)=true:=by simp;omega
 have e8:sName x.name 0=true:=by simpa using h8
 have e9:(f==0&&(decide (0<x.params)||decide (0<x.ups.length)))=false:=by
  by_cases hf:f=0
  ·have h10:=h9 hf;have a1:decide (0<x.params)=false:=decide_eq_false (by omega);have a2:decide (0<x.ups.length)=false:=decide_eq_false (by omega);rw[a1,a2];simp
  ·simp[hf]
 rw[e1,e2,e3,e4,e5,e6,e7,e8,e9];rfl
theorem l3head_bad (a:Option Addr)(l:List FnD)(c f:Nat)(S:Nat->Prop)(w:World)(hs:FnsAt w S a l)(hB:∀ b,S b->b<w.heap.size)(hf:f<l.length)(hbad:headBad (fnD l f) f) :
  Calls Tryd.prog 24 #[.agg #[.slice a l.length c],.int .i64 f] w fun e w'=>e=.returned (.bool (sHead l f))/\Below w.heap.size w w':=by
 have hbA:∀ o1 o2,Below w.heap.size w ((w.alloc o1).alloc o2):=fun o1 o2=>((Below.refl _ _).alloc (Nat.le_refl _) o1).alloc (by simp) o2;have hn:=hs.1;obtain⟨b,off,ea,hb,hcc⟩:=hs.2 (by omega);have N:FnCells w S b (off+f * 7) (fnD l f):=hcc f hf;clear hcc;obtain⟨va,vc,hv,hvI⟩:=N.vars;obtain⟨ua,uc,hu,huI⟩:=N.ups;obtain⟨na,nc,hno,hnI⟩:=N.nodes;have c0:=N.name;have c1:=N.line;have c2:=N.params;have c3:=N.rest;have v1:=hvI.1;have u1:=huI.1;have n1:=hnI.1;have hbs:b<w.heap.size:=hB b hb;by_cases hA:(fnD l f).nodes.length=0
 ·have HE:Hid (sHead l f=false):=sHead_bad (by have hx:=hA;exact(.inl hx));clear hs N hvI huI hnI;generalize fnD l f=x at *;obtain⟨name,line,params,rest,vars,ups,nodes⟩:=x;dsimp only at *;subst ea;go_enter Tryd.func24,Tryd.ntmps24;go_wp2_with (go_at_call 44;refine(l3name_any _ _ _).mono ?_;rintro e w' ⟨rfl,rfl⟩)
  all_goals
   go_ret;exact⟨ret_bool (unhide HE).symm,hbA _ _⟩
 by_cases hB':200<(fnD l f).vars.length
 ·have HE:Hid (sHead l f=false):=sHead_bad (by have hx:=hB';exact(.inr (.inl hx)));clear hs N hvI huI hnI;generalize fnD l f=x at *;obtain⟨name,line,params,rest,vars,ups,nodes⟩:=x;dsimp only at *;subst ea;go_enter Tryd.func24,Tryd.ntmps24;go_wp2_with (go_at_call 44;refine(l3name_any _ _ _).mono ?_;rintro e w' ⟨rfl,rfl⟩)
  all_goals
   go_ret;exact⟨ret_bool (unhide HE).symm,hbA _ _⟩
 by_cases hC:200<(fnD l f).ups.length
 ·have HE:Hid (sHead l f=false):=sHead_bad (by have hx:=hC;exact(.inr (.inr (.inl hx))));clear hs N hvI huI hnI;generalize fnD l f=x at *;obtain⟨name,line,params,rest,vars,ups,nodes⟩:=x;dsimp only at *;subst ea;go_enter Tryd.func24,Tryd.ntmps24;go_wp2_with (go_at_call 44;refine(l3name_any _ _ _).mono ?_;rintro e w' ⟨rfl,rfl⟩)
  all_goals
   go_ret;exact⟨ret_bool (unhide HE).symm,hbA _ _⟩
 by_cases hD:(fnD l f).params<0
 ·have HE:Hid (sHead l f=false):=sHead_bad (by have hx:=hD;exact(.inr (.inr (.inr (.inl hx)))));clear hs N hvI huI hnI;generalize fnD l f=x at *;obtain⟨name,line,params,rest,vars,ups,nodes⟩:=x;dsimp only at *;subst ea;go_enter Tryd.func24,Tryd.ntmps24;go_wp2_with (go_at_call 44;refine(l3name_any _ _ _).mono ?_;rintro e w' ⟨rfl,rfl⟩)
  all_goals
   go_ret;exact⟨ret_bool (unhide HE).symm,hbA _ _⟩
 by_cases hE:((fnD l f).vars.length:Int)<(fnD l f).params
 ·have HE:Hid (sHead l f=false):=sHead_bad (by have hx:=hE;exact(.inr (.inr (.inr (.inr (.inl hx))))));clear hs N hvI huI hnI;generalize fnD l f=x at *;obtain⟨name,line,params,rest,vars,ups,nodes⟩:=x;dsimp only at *;subst ea;go_enter Tryd.func24,Tryd.ntmps24;go_wp2_with (go_at_call 44;refine(l3name_any _ _ _).mono ?_;rintro e w' ⟨rfl,rfl⟩)
  all_goals
   go_ret;exact⟨ret_bool (unhide HE).symm,hbA _ _⟩
 by_cases hF:(fnD l f).line<0
 ·have HE:Hid (sHead l f=false):=sHead_bad (by have hx:=hF;exact(.inr (.inr (.inr (.inr (.inr (.inl hx)))))));clear hs N hvI huI hnI;generalize fnD l f=x at *;obtain⟨name,line,params,rest,vars,ups,nodes⟩:=x;dsimp only at *;subst ea;go_enter Tryd.func24,Tryd.ntmps24;go_wp2_with (go_at_call 44;refine(l3name_any _ _ _).mono ?_;rintro e w' ⟨rfl,rfl⟩)
  all_goals
   go_ret;exact⟨ret_bool (unhide HE).symm,hbA _ _⟩
 by_cases hG:100000<(fnD l f).line
 ·have HE:Hid (sHead l f=false):=sHead_bad (by have hx:=hG;exact(.inr (.inr (.inr (.inr (.inr (.inr (.inl hx))))))));clear hs N hvI huI hnI;generalize fnD l f=x at *;obtain⟨name,line,params,rest,vars,ups,nodes⟩:=x;dsimp only at *;subst ea;go_enter Tryd.func24,Tryd.ntmps24;go_wp2_with (go_at_call 44;refine(l3name_any _ _ _).mono ?_;rintro e w' ⟨rfl,rfl⟩)
  all_goals
   go_ret;exact⟨ret_bool (unhide HE).symm,hbA _ _⟩
 by_cases hH:sName (fnD l f).name 0=false
 ·have HE:Hid (sHead l f=false):=sHead_bad (by have hx:=hH;exact(.inr (.inr (.inr (.inr (.inr (.inr (.inr (.inl hx)))))))));clear hs N hvI huI hnI;generalize fnD l f=x at *;obtain⟨name,line,params,rest,vars,ups,nodes⟩:=x;dsimp only at *;subst ea;go_enter Tryd.func24,Tryd.ntmps24;go_wp2_with (go_at_call 44;refine(l3name_any _ _ _).mono ?_;rintro e w' ⟨rfl,rfl⟩)
  all_goals
   go_ret;exact⟨ret_bool (unhide HE).symm,hbA _ _⟩
 have hH2:sName (fnD l f).name 0=true:=by simpa using hH
 by_cases hI:f=0/\(0<(fnD l f).params\/0<(fnD l f).ups.length)
 ·have HE:Hid (sHead l f=false):=sHead_bad (by have hx:=hI;exact(.inr (.inr (.inr (.inr (.inr (.inr (.inr (.inr hx)))))))));obtain⟨hf0,hI⟩:=hI;have hf1:((f:Int)==0)=true:=by simp[hf0]
  clear hH hf0;rcases hI with hI | hI
  all_goals
   clear hs N hvI huI hnI;generalize fnD l f=x at *;obtain⟨name,line,params,rest,vars,ups,nodes⟩:=x;dsimp only at *;subst ea;go_enter Tryd.func24,Tryd.ntmps24;go_wp2_with (go_at_call 44;refine(l3name_any _ _ _).mono ?_;rintro e w' ⟨rfl,rfl⟩)
   all_goals
    go_ret;exact⟨ret_bool (unhide HE).symm,hbA _ _⟩
 exact absurd hbad (by unfold headBad;rintro(h | h | h | h | h | h | h | h | h)<;>contradiction)
theorem l3head_good (a:Option Addr)(l:List FnD)(c f:Nat)(S:Nat->Prop)(w:World)(hs:FnsAt w S a l)(hB:∀ b,S b->b<w.heap.size)(hf:f<l.length)(hgood:¬headBad (fnD l f) f) :
  Calls Tryd.prog 24 #[.agg #[.slice a l.length c],.int .i64 f] w fun e w'=>e=.returned (.bool (sHead l f))/\Below w.heap.size w w':=by
 have hbA:∀ o1 o2,Below w.heap.size w ((w.alloc o1).alloc o2):=fun o1 o2=>((Below.refl _ _).alloc (Nat.le_refl _) o1).alloc (by simp) o2;have hn:=hs.1;obtain⟨b,off,ea,hb,hcc⟩:=hs.2 (by omega);have N:FnCells w S b (off+f * 7) (fnD l f):=hcc f hf;clear hcc;obtain⟨va,vc,hv,hvI⟩:=N.vars;obtain⟨ua,uc,hu,huI⟩:=N.ups;obtain⟨na,nc,hno,hnI⟩:=N.nodes;have c0:=N.name;have c1:=N.line;have c2:=N.params;have c3:=N.rest;have v1:=hvI.1;have u1:=huI.1;have n1:=hnI.1;have hbs:b<w.heap.size:=hB b hb;have E:=sHead_good (l:=l) (f:=f) hgood;have HE:=hide E;have HS:=hide hB;clear E hs N huI hnI hB;unfold headBad at hgood;simp only[not_or]at hgood;obtain⟨hA,hB',hC,hD,hE,hF,hG,hH,hI⟩:=hgood;have hH2:sName (fnD l f).name 0=true:=by simpa using hH
 clear hH;generalize fnD l f=x at *;obtain⟨name,line,params,rest,vars,ups,nodes⟩:=x;dsimp only at *;subst ea;have g1:((nodes.length:Int)==0)=false:=by simp;intro h;exact hA (by simp[h])
 have g2:decide ((200:Int)<vars.length)=false:=decide_eq_false (by omega);have g3:decide ((200:Int)<ups.length)=false:=decide_eq_false (by omega);have g2':decide (200<vars.length)=false:=decide_eq_false (by omega);have g3':decide (200<ups.length)=false:=decide_eq_false (by omega);have g4:decide (params<0)=false:=by simp;omega
 have g5:decide ((vars.length:Int)<params)=false:=by simp;omega
 have g6:decide (line<0)=false:=by simp;omega
 have g7:decide (100000<line)=false:=by simp;omega
 have hloop:∀(W:World),W=W->True:=fun _ _=>trivial;clear hloop;by_cases hf0:f=0
 ·have p1:¬0<params:=fun h=>hI ⟨hf0,.inl h⟩;have p2:¬0<ups.length:=fun h=>hI ⟨hf0,.inr h⟩;have d1:decide (0<params)=false:=decide_eq_false p1;have d2:decide (0<ups.length)=false:=decide_eq_false p2;have hf1:((f:Int)==0)=true:=by simp[hf0]
  clear hI hA hB' hC hD hE hF hG p1 p2 hf0;go_enter Tryd.func24,Tryd.ntmps24;go_wp2_with (go_at_call 44;refine(l3name_any _ _ _).mono ?_;rintro e w' ⟨rfl,rfl⟩)
  go_loop [74] (fun i=>∃(k:Nat),k<=vars.length/\i=.int .i64 k/\Hid (∀ j,0<=j->j<k->sName (vars[j]?.getD ByteArray.empty) 1=true)) (fun i=>vars.length-(intOf i).toNat)
  case atStart=>exact⟨0,by omega,rfl,fun j h1 h2=>absurd h2 (Nat.not_lt_zero _)⟩
  case round=>
   obtain⟨k,hk,rfl,hall⟩:=hrel;by_cases hlt:k<vars.length
   ·obtain⟨b2,off2,rfl,hb2,hc2⟩:=hvI.2 (by omega);have hcl:w.cell? ⟨b2,off2+k,none⟩=some (.string (vars[k]?.getD ByteArray.empty)):=(hc2 k hlt).2;have hlt2:b2<w.heap.size:=unhide HS b2 hb2;clear hc2 hvI;cases hq:sName (vars[k]?.getD ByteArray.empty) 1
    ·have HQ:=hide hq;have HQ2:=HQ;clear hq;generalize vars[k]?.getD ByteArray.empty=s at hcl HQ;go_wp2_with fail
     refine(l3name_any _ _ _).mono ?_;rintro e w' ⟨rfl,rfl⟩;rw[unhide HQ];go_wp2_with fail
     go_ret;exact⟨ret_bool (by rw[unhide HE,allFrom_false (q:=fun i=>sName (vars[i]?.getD ByteArray.empty) 1) (Nat.zero_le k) hlt (unhide HQ2)]),hbA _ _⟩
    ·have HQ:=hide hq;have HQ2:=HQ;clear hq;generalize vars[k]?.getD ByteArray.empty=s at hcl HQ;go_wp2_with fail
     refine(l3name_any _ _ _).mono ?_;rintro e w' ⟨rfl,rfl⟩;rw[unhide HQ];go_wp2_with fail
     go_round
     case rel=>
      refine⟨k+1,by omega,by go_num,fun j h1 h2=>?_⟩;by_cases e:j=k
      ·subst e;exact unhide HQ2
      ·exact hall.out j h1 (by omega)
     case measure=>simp[intOf];omega
   ·go_wp2_with fail
    go_ret;exact⟨ret_bool (by rw[unhide HE,allFrom_true (q:=fun i=>sName (vars[i]?.getD ByteArray.empty) 1) (fun j h1 h2=>hall.out j h1 (by omega))]),hbA _ _⟩
 ·have hf1:((f:Int)==0)=false:=by simp;omega
  clear hI hA hB' hC hD hE hF hG;go_enter Tryd.func24,Tryd.ntmps24;go_wp2_with (go_at_call 44;refine(l3name_any _ _ _).mono ?_;rintro e w' ⟨rfl,rfl⟩)
  go_loop [74] (fun i=>∃(k:Nat),k<=vars.length/\i=.int .i64 k/\Hid (∀ j,0<=j->j<k->sName (vars[j]?.getD ByteArray.empty) 1=true)) (fun i=>vars.length-(intOf i).toNat)
  case atStart=>exact⟨0,by omega,rfl,fun j h1 h2=>absurd h2 (Nat.not_lt_zero _)⟩
  case round=>
   obtain⟨k,hk,rfl,hall⟩:=hrel;by_cases hlt:k<vars.length
   ·obtain⟨b2,off2,rfl,hb2,hc2⟩:=hvI.2 (by omega);have hcl:w.cell? ⟨b2,off2+k,none⟩=some (.string (vars[k]?.getD ByteArray.empty)):=(hc2 k hlt).2;have hlt2:b2<w.heap.size:=unhide HS b2 hb2;clear hc2 hvI;cases hq:sName (vars[k]?.getD ByteArray.empty) 1
    ·have HQ:=hide hq;have HQ2:=HQ;clear hq;generalize vars[k]?.getD ByteArray.empty=s at hcl HQ;go_wp2_with fail
     refine(l3name_any _ _ _).mono ?_;rintro e w' ⟨rfl,rfl⟩;rw[unhide HQ];go_wp2_with fail
     go_ret;exact⟨ret_bool (by rw[unhide HE,allFrom_false (q:=fun i=>sName (vars[i]?.getD ByteArray.empty) 1) (Nat.zero_le k) hlt (unhide HQ2)]),hbA _ _⟩
    ·have HQ:=hide hq;have HQ2:=HQ;clear hq;generalize vars[k]?.getD ByteArray.empty=s at hcl HQ;go_wp2_with fail
     refine(l3name_any _ _ _).mono ?_;rintro e w' ⟨rfl,rfl⟩;rw[unhide HQ];go_wp2_with fail
     go_round
     case rel=>
      refine⟨k+1,by omega,by go_num,fun j h1 h2=>?_⟩;by_cases e:j=k
      ·subst e;exact unhide HQ2
      ·exact hall.out j h1 (by omega)
     case measure=>simp[intOf];omega
   ·go_wp2_with fail
    go_ret;exact⟨ret_bool (by rw[unhide HE,allFrom_true (q:=fun i=>sName (vars[i]?.getD ByteArray.empty) 1) (fun j h1 h2=>hall.out j h1 (by omega))]),hbA _ _⟩
theorem l3head_any (a:Option Addr)(l:List FnD)(c f:Nat)(S:Nat->Prop)(w:World)(hs:FnsAt w S a l)(hB:∀ b,S b->b<w.heap.size)(hf:f<l.length) :
  Calls Tryd.prog 24 #[.agg #[.slice a l.length c],.int .i64 f] w fun e w'=>e=.returned (.bool (sHead l f))/\Below w.heap.size w w':=by
 by_cases h:headBad (fnD l f) f
 ·exact l3head_bad a l c f S w hs hB hf h
 ·exact l3head_good a l c f S w hs hB hf h
def nodesLen (x:FnD):Nat:=x.nodes.length
def sizeBad (l:List FnD):Prop:=l.length=0\/300<l.length\/3000<sumAll nodesLen l
def First (l:List FnD)(bad:Nat->Nat->Bool)(f p:Nat):Prop:=
 f<l.length/\p<(fnD l f).nodes.length/\bad f p=true/\∀ f' p',f'<l.length->p'<(fnD l f').nodes.length->(f'<f\/f'=f/\p'<p)->bad f' p'=false
def NoBad (l:List FnD)(bad:Nat->Nat->Bool):Prop:=∀ f p,f<l.length->p<(fnD l f).nodes.length->bad f p=false
def shapeBad (l:List FnD)(f p:Nat):Bool:=!sShape (fnD l f).nodes p
def HeadsOk (l:List FnD):Prop:=∀ g,g<l.length->sHead l g=true
def Fault13 (l:List FnD)(c f n:Int):Prop:=
 (sizeBad l/\c=1/\f=0/\n=0) \/
 (¬sizeBad l/\c=2/\n=0/\∃ F:Nat,f=F/\F<l.length/\sHead l F=false/\∀ g,g<F->sHead l g=true) \/
 (¬sizeBad l/\HeadsOk l/\c=3/\∃ F P:Nat,f=F/\n=P/\First l (shapeBad l) F P) \/
 (¬sizeBad l/\HeadsOk l/\c=0/\f=0/\n=0/\NoBad l (shapeBad l))
theorem l3head_from {a:Option Addr}{l:List FnD}{c f:Nat}{S:Nat->Prop}(w W:World)(hs:FnsAt w S a l)(hB:∀ b,S b->b<w.heap.size)(hf:f<l.length)(hW:Below w.heap.size w W) :
  Calls Tryd.prog 24 #[.agg #[.slice a l.length c],.int .i64 f] W fun e w'=>e=.returned (.bool (sHead l f))/\Below W.heap.size W w':=
 l3head_any a l c f S W (hs.keep hW hB) (fun b h=>Nat.lt_of_lt_of_le (hB b h) hW.size) hf
theorem l3shape_from {a:Option Addr}{ns:List NodeD}{c p:Nat}{S:Nat->Prop}(w W:World)(hs:NodesAt w S a ns)(hB:∀ b,S b->b<w.heap.size)(hp:p<ns.length)(hW:Below w.heap.size w W) :
  Calls Tryd.prog 25 #[.slice a ns.length c,.int .i64 p] W fun e w'=>e=.returned (.bool (sShape ns p))/\Below W.heap.size W w':=
 l3shape_any a ns c p S W (hs.keep hW hB) (fun b h=>Nat.lt_of_lt_of_le (hB b h) hW.size) hp
def box2 (w:World)(a:Option Addr)(n c:Nat):World:=(w.alloc (.cells #[.slice a n c] 31)).alloc (.cells #[.int .i64 0,.int .i64 0,.int .i64 0] 27)
theorem box2_below (w:World)(a:Option Addr)(n c:Nat):Below w.heap.size w (box2 w a n c):=((Below.refl _ _).alloc (Nat.le_refl _) _).alloc (by simp) _
theorem box2_size (w:World)(a:Option Addr)(n c:Nat):(box2 w a n c).heap.size=w.heap.size+2:=by simp[box2]
structure Box2 (w:World)(a:Option Addr)(n c:Nat)(wr:World):Prop where
 below:Below (w.heap.size+2) (box2 w a n c) wr
theorem Box2.start (w:World)(a:Option Addr)(n c:Nat):Box2 w a n c (box2 w a n c):=⟨Below.refl _ _⟩
theorem Box2.old {w:World}{a:Option Addr}{n c:Nat}{wr:World}(h:Box2 w a n c wr):Below w.heap.size w wr:=(box2_below w a n c).trans (h.below.mono (by omega))
theorem Box2.size {w:World}{a:Option Addr}{n c:Nat}{wr:World}(h:Box2 w a n c wr):w.heap.size+2<=wr.heap.size:=by have:=h.below.size;rw[box2_size]at this;exact this
theorem Box2.below' {w:World}{a:Option Addr}{n c:Nat}{wr w2:World}(h:Box2 w a n c wr)(hb:Below wr.heap.size wr w2):Box2 w a n c w2:=⟨h.below.trans (hb.mono h.size)⟩
theorem Box2.alloc {w:World}{a:Option Addr}{n c:Nat}{wr:World}(h:Box2 w a n c wr)(o:Obj):Box2 w a n c (wr.alloc o):=⟨h.below.alloc h.size o⟩
theorem Box2.drew {w:World}{a:Option Addr}{n c:Nat}{wr:World}(h:Box2 w a n c wr):Box2 w a n c wr.drew:=⟨h.below.drew⟩
theorem Box2.unit {w:World}{a:Option Addr}{n c:Nat}{wr:World}(h:Box2 w a n c wr):wr.cell? ⟨w.heap.size,0,none⟩=some (.slice a n c):=by
 rw[h.below.cell (p:=⟨w.heap.size,0,none⟩) (by simp)];simp[box2,go_sem]
theorem Box2.res {w:World}{a:Option Addr}{n c:Nat}{wr:World}(h:Box2 w a n c wr)(j:Nat)(hj:j<3):wr.cell? ⟨w.heap.size+1,j,none⟩=some (.int .i64 0):=by
 rw[h.below.cell (p:=⟨w.heap.size+1,j,none⟩) (by simp)];have:j=0\/j=1\/j=2:=by omega
 rcases this with rfl | rfl | rfl<;>simp[box2,go_sem]
theorem Box2.frozen {w:World}{a:Option Addr}{n c:Nat}{wr:World}(h:Box2 w a n c wr)(j:Nat):wr.frozen? ⟨w.heap.size+1,j,none⟩=false:=by
 rw[h.below.frozen (p:=⟨w.heap.size+1,j,none⟩) (by simp)];simp[box2,go_sem]
theorem l3first_any (a:Option Addr)(l:List FnD)(c:Nat)(S:Nat->Prop)(w:World)(hs:FnsAt w S a l)(hB:∀ b,S b->b<w.heap.size)(hl:tFns l<=1048576) :
  Calls Tryd.prog 11 #[.agg #[.slice a l.length c]] w fun e w'=>∃ x f n,e=.returned (.agg #[.int .i64 x,.int .i64 f,.int .i64 n])/\Fault13 l x f n/\Below w.heap.size w w':=by
 have hn:=hs.1;have hll:l.length<=1048576:=by unfold tFns at hl;omega
 have htot:∀ k,sumTo nodesLen l k<=1048576:=fun k=>by
  have h1:=sumTo_le nodesLen l k;have h2:sumAll nodesLen l<=sumAll tFn l:=by
   clear h1 hl hs hn hll;unfold sumAll
   induction l with
   | nil=>simp
   | cons x r ih=>
    simp only[List.map_cons,List.sum_cons];have:nodesLen x<=tFn x:=by unfold nodesLen tFn tNodes;omega
    omega
  unfold tFns at hl;omega
 have HT:=hide htot;clear htot hl;have HS:=hide hs;have HB:=hide hB;have X0:Hid (Box2 w a l.length c (box2 w a l.length c)):=Box2.start w a l.length c;go_enter Tryd.func11,Tryd.ntmps11;go_wp2_with fail
 go_loopg [3,12] l.length (fun g t i wr=>∃(k:Nat),k+g=l.length/\i=.int .i64 k/\t=.int .i64 (sumTo nodesLen l k:Nat)/\Box2 w a l.length c wr)
 case atStart=>exact⟨0,by omega,rfl,by rw[sumTo_zero];rfl,X0.out⟩
 case round=>
  obtain⟨k,hk,rfl,rfl,hx⟩:=hrel;have u0:=hx.unit;by_cases hlt:k<l.length
  ·obtain⟨b,off,rfl,hb,hcc⟩:=((unhide HS).keep hx.old (unhide HB)).2 (by omega);have N:FnCells wr S b (off+k * 7) (fnD l k):=hcc k hlt;have hsu:=sumTo_succ nodesLen l k FnD.z hlt;have hsu:sumTo nodesLen l (k+1)=sumTo nodesLen l k+(fnD l k).nodes.length:=hsu;have t1:=unhide HT k;have t2:=unhide HT (k+1);have HSU:=hide hsu;have hadd:sumTo nodesLen l k+(fnD l k).nodes.length<=1048576:=by omega
   clear hcc hsu;generalize fnD l k=x at *;obtain⟨va,vc,hv,hvI⟩:=N.vars;obtain⟨ua,uc,hu,huI⟩:=N.ups;obtain⟨na,nc,hno,hnI⟩:=N.nodes;have c0:=N.name;have c1:=N.line;have c2:=N.params;have c3:=N.rest;clear N hvI huI hnI;generalize sumTo nodesLen l k=T at *;go_wp2_with fail
   go_roundg (l.length-(k+1))
   case measure=>omega
   case rel=>
    have h1:=unhide HSU;exact⟨k+1,by omega,by go_num,by rw[h1];go_num,hx.alloc _⟩
  ·have HK:Hid (k=l.length):=by show _=_;omega
   have hkl:=HK.out;subst hkl;rw[sumTo_len]at *;clear HK hk;by_cases hbad:sizeBad l
   ·have HBAD:=hide hbad;by_cases b1:l.length=0
    ·have e1:((l.length:Int)==0)=true:=by simp[b1]
     clear b1 hbad;go_wp2_with fail
     refine(l3fault_any _ _ _ _).mono ?_;rintro e w2 ⟨rfl,hb2⟩;have hx2:=hx.below' hb2;have r0:=hx2.res 0 (by omega);have r1:=hx2.res 1 (by omega);have r2:=hx2.res 2 (by omega);have z0:=hx2.frozen 0;have z1:=hx2.frozen 1;have z2:=hx2.frozen 2;have BB:Hid (∀ v0 v1 v2,Below w.heap.size w (((w2.setCell ⟨w.heap.size+1,0,none⟩ v0).setCell ⟨w.heap.size+1,1,none⟩ v1).setCell ⟨w.heap.size+1,2,none⟩ v2)):=fun v0 v1 v2=>((hx2.old.setCell (Nat.le_succ _) _).setCell (Nat.le_succ _) _).setCell (Nat.le_succ _) _;go_wp2_with fail
     refine bodyPost_ret (v:=.agg #[.int .i64 1,.int .i64 0,.int .i64 0]) (by simp[results,Tryd.results11,go_sem,r0,r1,r2]) rfl ⟨1,0,0,rfl,?_,BB.out _ _ _⟩;exact .inl ⟨unhide HBAD,rfl,rfl,rfl⟩
    by_cases b2:300<l.length
    ·have e1:((l.length:Int)==0)=false:=beq_eq_false_iff_ne.2 (by omega);have e2:decide ((300:Int)<l.length)=true:=decide_eq_true (by omega);clear b1 hbad;go_wp2_with fail
     refine(l3fault_any _ _ _ _).mono ?_;rintro e w2 ⟨rfl,hb2⟩;have hx2:=hx.below' hb2;have r0:=hx2.res 0 (by omega);have r1:=hx2.res 1 (by omega);have r2:=hx2.res 2 (by omega);have z0:=hx2.frozen 0;have z1:=hx2.frozen 1;have z2:=hx2.frozen 2;have BB:Hid (∀ v0 v1 v2,Below w.heap.size w (((w2.setCell ⟨w.heap.size+1,0,none⟩ v0).setCell ⟨w.heap.size+1,1,none⟩ v1).setCell ⟨w.heap.size+1,2,none⟩ v2)):=fun v0 v1 v2=>((hx2.old.setCell (Nat.le_succ _) _).setCell (Nat.le_succ _) _).setCell (Nat.le_succ _) _;go_wp2_with fail
     refine bodyPost_ret (v:=.agg #[.int .i64 1,.int .i64 0,.int .i64 0]) (by simp[results,Tryd.results11,go_sem,r0,r1,r2]) rfl ⟨1,0,0,rfl,?_,BB.out _ _ _⟩;exact .inl ⟨unhide HBAD,rfl,rfl,rfl⟩
    have b3:3000<sumAll nodesLen l:=by rcases hbad with h | h | h<;>first | omega | exact absurd h b1
    have e1:((l.length:Int)==0)=false:=beq_eq_false_iff_ne.2 (by omega);have e2:decide ((300:Int)<l.length)=false:=decide_eq_false (by omega);have e3:decide ((3000:Int)<(sumAll nodesLen l:Nat))=true:=decide_eq_true (by omega);clear b1 b2 hbad;generalize sumAll nodesLen l=T at *;go_wp2_with fail
    refine(l3fault_any _ _ _ _).mono ?_;rintro e w2 ⟨rfl,hb2⟩;have hx2:=hx.below' hb2;have r0:=hx2.res 0 (by omega);have r1:=hx2.res 1 (by omega);have r2:=hx2.res 2 (by omega);have z0:=hx2.frozen 0;have z1:=hx2.frozen 1;have z2:=hx2.frozen 2;have BB:Hid (∀ v0 v1 v2,Below w.heap.size w (((w2.setCell ⟨w.heap.size+1,0,none⟩ v0).setCell ⟨w.heap.size+1,1,none⟩ v1).setCell ⟨w.heap.size+1,2,none⟩ v2)):=fun v0 v1 v2=>((hx2.old.setCell (Nat.le_succ _) _).setCell (Nat.le_succ _) _).setCell (Nat.le_succ _) _;go_wp2_with fail
    refine bodyPost_ret (v:=.agg #[.int .i64 1,.int .i64 0,.int .i64 0]) (by simp[results,Tryd.results11,go_sem,r0,r1,r2]) rfl ⟨1,0,0,rfl,?_,BB.out _ _ _⟩;exact .inl ⟨unhide HBAD,rfl,rfl,rfl⟩
   have HG:=hide hbad;have g1:l.length≠0:=fun h=>hbad (.inl h);have g2:¬300<l.length:=fun h=>hbad (.inr (.inl h));have g3:¬3000<sumAll nodesLen l:=fun h=>hbad (.inr (.inr h));have e1:((l.length:Int)==0)=false:=beq_eq_false_iff_ne.2 (by omega);have e2:decide ((300:Int)<l.length)=false:=decide_eq_false (by omega);have e3:decide ((3000:Int)<(sumAll nodesLen l:Nat))=false:=decide_eq_false (by omega);clear hbad g1 g3;generalize sumAll nodesLen l=T at *;go_wp2_with fail
   go_loopg [40] l.length (fun g i wr=>∃(k:Nat),k+g=l.length/\i=.int .i64 k/\Box2 w a l.length c wr/\Hid (∀ j,j<k->sHead l j=true))
   case atStart=>exact⟨0,by omega,rfl,hx,fun j h=>absurd h (Nat.not_lt_zero _)⟩
   case round=>
    clear hx u0;obtain⟨k,hk,rfl,hx,hheads⟩:=hrel;have u0:=hx.unit;by_cases hlt:k<l.length
    ·cases hq:sHead l k
     ·have HQ:=hide hq;clear hq;go_wp2_with fail
      refine(l3head_from w _ (unhide HS) (unhide HB) hlt hx.old).mono ?_;rintro e w1 ⟨rfl,hb1⟩;rw[unhide HQ];have hx1:=hx.below' hb1;go_wp2_with fail
      refine(l3fault_any _ _ _ _).mono ?_;rintro e w2 ⟨rfl,hb2⟩;have hx2:=hx1.below' hb2;have r0:=hx2.res 0 (by omega);have r1:=hx2.res 1 (by omega);have r2:=hx2.res 2 (by omega);have z0:=hx2.frozen 0;have z1:=hx2.frozen 1;have z2:=hx2.frozen 2;have BB:Hid (∀ v0 v1 v2,Below w.heap.size w (((w2.setCell ⟨w.heap.size+1,0,none⟩ v0).setCell ⟨w.heap.size+1,1,none⟩ v1).setCell ⟨w.heap.size+1,2,none⟩ v2)):=fun v0 v1 v2=>((hx2.old.setCell (Nat.le_succ _) _).setCell (Nat.le_succ _) _).setCell (Nat.le_succ _) _;go_wp2_with fail
      refine bodyPost_ret (v:=.agg #[.int .i64 2,.int .i64 k,.int .i64 0]) (by simp[results,Tryd.results11,go_sem,r0,r1,r2]) rfl ⟨2,k,0,rfl,?_,BB.out _ _ _⟩;exact .inr (.inl ⟨unhide HG,rfl,rfl,k,rfl,hlt,unhide HQ,hheads.out⟩)
     ·have HQ:=hide hq;clear hq;go_wp2_with fail
      refine(l3head_from w _ (unhide HS) (unhide HB) hlt hx.old).mono ?_;rintro e w1 ⟨rfl,hb1⟩;rw[unhide HQ];have hx1:=hx.below' hb1;go_wp2_with fail
      go_roundg (l.length-(k+1))
      case measure=>omega
      case rel=>
       refine⟨k+1,by omega,by go_num,hx1,fun j h=>?_⟩;by_cases e:j=k
       ·subst e;exact unhide HQ
       ·exact hheads.out j (by omega)
    ·have HH:Hid (HeadsOk l):=fun g hg=>hheads.out g (by omega);clear hheads;go_wp2_with fail
     go_loopg [53] l.length (fun g i wr=>∃(k:Nat),k+g=l.length/\i=.int .i64 k/\Box2 w a l.length c wr/\Hid (∀ f' p',f'<k->p'<(fnD l f').nodes.length->shapeBad l f' p'=false))
     case atStart=>exact⟨0,by omega,rfl,hx,fun f' p' h=>absurd h (Nat.not_lt_zero _)⟩
     case round=>
      clear hx u0 hlt hk;obtain⟨f,hk,rfl,hx,hshapes⟩:=hrel;have u0:=hx.unit;by_cases hlt:f<l.length
      ·obtain⟨b,off,rfl,hb,hcc⟩:=(unhide HS).2 (by omega);have N0:FnCells w S b (off+f * 7) (fnD l f):=hcc f hlt;clear hcc;obtain⟨na,nc,hno0,hnI⟩:=N0.nodes;have hlenb:=hnI.1;have hbs:b<w.heap.size:=unhide HB b hb;have hno:wr.cell? ⟨b,off+f * 7+6,none⟩=some (.slice na (fnD l f).nodes.length nc):=(hx.old.cell (p:=⟨b,off+f * 7+6,none⟩) hbs).trans hno0;have NN:Hid (NodesAt w S na (fnD l f).nodes):=hnI;have HNO:=hide hno0;clear hnI N0 hno0;go_wp2_with fail
       go_loopg [63] (fnD l f).nodes.length (fun g i wr=>∃(k:Nat),k+g=(fnD l f).nodes.length/\i=.int .i64 k/\Box2 w (some ⟨b,off,none⟩) l.length c wr/\Hid (∀ p',p'<k->shapeBad l f p'=false))
       case atStart=>exact⟨0,by omega,rfl,hx,fun p' h=>absurd h (Nat.not_lt_zero _)⟩
       case round=>
        clear hx u0 hno;rename_i gk1 wr1 _;obtain⟨p,hp,rfl,hx,hok⟩:=hrel;have u0:=hx.unit;have hno:=(hx.old.cell (p:=⟨b,off+f * 7+6,none⟩) hbs).trans HNO.out;by_cases hpl:p<(fnD l f).nodes.length
        ·cases hq:sShape (fnD l f).nodes p
         ·have HQ:=hide hq;clear hq;go_wp2_with fail
          refine(l3shape_from w _ (unhide NN) (unhide HB) hpl hx.old).mono ?_;rintro e w1 ⟨rfl,hb1⟩;rw[unhide HQ];have hx1:=hx.below' hb1;go_wp2_with fail
          refine(l3fault_any _ _ _ _).mono ?_;rintro e w2 ⟨rfl,hb2⟩;have hx2:=hx1.below' hb2;have r0:=hx2.res 0 (by omega);have r1:=hx2.res 1 (by omega);have r2:=hx2.res 2 (by omega);have z0:=hx2.frozen 0;have z1:=hx2.frozen 1;have z2:=hx2.frozen 2;have BB:Hid (∀ v0 v1 v2,Below w.heap.size w (((w2.setCell ⟨w.heap.size+1,0,none⟩ v0).setCell ⟨w.heap.size+1,1,none⟩ v1).setCell ⟨w.heap.size+1,2,none⟩ v2)):=fun v0 v1 v2=>((hx2.old.setCell (Nat.le_succ _) _).setCell (Nat.le_succ _) _).setCell (Nat.le_succ _) _;go_wp2_with fail
          refine bodyPost_ret (v:=.agg #[.int .i64 3,.int .i64 f,.int .i64 p]) (by simp[results,Tryd.results11,go_sem,r0,r1,r2]) rfl ⟨3,f,p,rfl,?_,BB.out _ _ _⟩;refine .inr (.inr (.inl ⟨unhide HG,unhide HH,rfl,f,p,rfl,rfl,hlt,hpl,by simp[shapeBad,unhide HQ],fun f' p' h1 h2 h3=>?_⟩));rcases h3 with h3 | ⟨rfl,h3⟩
          ·exact hshapes.out f' p' h3 h2
          ·exact hok.out p' h3
         ·have HQ:=hide hq;clear hq;go_wp2_with fail
          refine(l3shape_from w _ (unhide NN) (unhide HB) hpl hx.old).mono ?_;rintro e w1 ⟨rfl,hb1⟩;rw[unhide HQ];have hx1:=hx.below' hb1;go_wp2_with fail
          go_roundg ((fnD l f).nodes.length-(p+1))
          case measure=>omega
          case rel=>
           refine⟨p+1,by omega,by go_num,hx1,fun j h=>?_⟩;by_cases e:j=p
           ·subst e;simp[shapeBad,unhide HQ]
           ·exact hok.out j (by omega)
        ·go_wp2_with fail
         go_roundg (l.length-(f+1))
         case measure=>omega
         case rel=>
          refine⟨f+1,by omega,by go_num,hx,fun f' p' h1 h2=>?_⟩;by_cases e:f'=f
          ·subst e;exact hok.out p' (by omega)
          ·exact hshapes.out f' p' (by omega) h2
      ·have HF:Hid (NoBad l (shapeBad l)):=fun f' p' h1 h2=>hshapes.out f' p' (by omega) h2;clear hshapes;have r0:=hx.res 0 (by omega);have r1:=hx.res 1 (by omega);have r2:=hx.res 2 (by omega);have z0:=hx.frozen 0;have z1:=hx.frozen 1;have z2:=hx.frozen 2;have BB:Hid (∀ v0 v1 v2,Below w.heap.size w (((wr.setCell ⟨w.heap.size+1,0,none⟩ v0).setCell ⟨w.heap.size+1,1,none⟩ v1).setCell ⟨w.heap.size+1,2,none⟩ v2)):=fun v0 v1 v2=>((hx.old.setCell (Nat.le_succ _) _).setCell (Nat.le_succ _) _).setCell (Nat.le_succ _) _;go_wp2_with fail
       refine bodyPost_ret (v:=.agg #[.int .i64 0,.int .i64 0,.int .i64 0]) (by simp[results,Tryd.results11,go_sem,r0,r1,r2]) rfl ⟨0,0,0,rfl,?_,BB.out _ _ _⟩;exact .inr (.inr (.inr ⟨unhide HG,unhide HH,rfl,rfl,rfl,unhide HF⟩))
end Go.Proofs.YtpmeihghljnfeaaDoor

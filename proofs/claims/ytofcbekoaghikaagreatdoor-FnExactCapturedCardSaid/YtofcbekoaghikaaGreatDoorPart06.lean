import Derived.Test.YtofcbekoaghikaaGreatDoorPart05
set_option linter.unusedSimpArgs false
set_option linter.unusedVariables false
set_option maxHeartbeats 2000000
set_option maxRecDepth 100000
namespace Go.Proofs.YtofcbekoaghikaaGreatDoor
open Go.RowKit
attribute [local go_sem] run_store_float
theorem st2 (a:Option Addr)(ns:List NodeD)(c p:Nat)(S:Nat->Prop)(w:World)(hs:NodesAt w S a ns)(hB:∀ b,S b->b<w.heap.size)(hp:p<ns.length)(hkl:(nd ns p).kids.length<=200)(hk:(nd ns p).kind=2) :
  Calls Tryz.prog 61 #[.slice a ns.length c,.int .i64 p] w fun e w'=>e=.returned (.bool (sStatement ns p))/\Below w.heap.size w w':=by
 have hbA:∀ o,Below w.heap.size w (w.alloc o):=fun o=>(Below.refl _ _).alloc (Nat.le_refl _) o;have E:sStatement ns p=stArm ns p (nd ns p) (nd ns p).kids.length (nd ns p).refs.length 2:=by rw[sStatement,hk]
 have hn:=hs.1;obtain⟨b,off,ea,hb,hcc⟩:=hs.2 (by omega);have N:NodeCells w S b (off+p * 8) (nd ns p):=hcc p hp;clear hcc;generalize nd ns p=n at *;obtain⟨kind,line,op,num,flt,str,refs,kids⟩:=n;obtain⟨ra,rc,hr,hrI⟩:=N.refs;obtain⟨ka,kc,hkk,hkI⟩:=N.kids;have c0:=N.kind;have c1:=N.line;have c2:=N.op;have c3:=N.num;have c4:=N.flt;have c5:=N.str;have hss:=N.strs;have hrl:=hrI.1;simp only[stArm,sBare]at E;dsimp only at E hk hkl hr hrl hkk c0 c1 c2 c3 c4 c5 hss;clear N hrI hkI;subst hk;generalize kids.length=kl at *;generalize refs.length=rl at *;subst ea;have hK:(0:Int)<=kl:=by omega
 have hK2:(kl:Int)<=200:=by omega
 have HE:=hide E;clear E;have HS:=hide hs;have HB:=hide hB;clear hs hB;go_enter Tryz.func61,Tryz.ntmps61;go_wp2_with (first
  | (go_at_call 77;refine(l3kid_from w _ (unhide HS) (unhide HB) hp _ (by omega) (by omega) (by exact hbA _)).mono ?_;rintro e w' ⟨rfl,rfl⟩)
  | (go_at_call 79;refine(l3exprs_from w _ (unhide HS) (unhide HB) hp _ _ (by omega) (by omega) (by omega) (by first | exact hbA _ | exact(hbA _).trans (hb'.mono (by simp)))).mono ?_;rintro e w' ⟨rfl,rfl⟩)
  | (go_at_call 81;refine(l3many_any _ _).mono ?_;rintro e w' ⟨rfl,rfl⟩)
  | (go_at_call 78;refine(l3bare_any _ _ _ _ _ _ _ _ _ _ _ _ _ _ _ _ _ _).mono ?_;rintro e w' ⟨rfl,hb'⟩))
 all_goals
  go_ret;have E:=unhide HE;refine⟨ret_bool ?_,?_⟩
  ·rw[E];first | (simp[*];done) | (simp[*]<;>omega)
  ·first | exact hbA _ | exact(hbA _).trans (hb'.mono (by simp))
theorem st4 (a:Option Addr)(ns:List NodeD)(c p:Nat)(S:Nat->Prop)(w:World)(hs:NodesAt w S a ns)(hB:∀ b,S b->b<w.heap.size)(hp:p<ns.length)(hkl:(nd ns p).kids.length<=200)(hk:(nd ns p).kind=4) :
  Calls Tryz.prog 61 #[.slice a ns.length c,.int .i64 p] w fun e w'=>e=.returned (.bool (sStatement ns p))/\Below w.heap.size w w':=by
 have hbA:∀ o,Below w.heap.size w (w.alloc o):=fun o=>(Below.refl _ _).alloc (Nat.le_refl _) o;have E:sStatement ns p=stArm ns p (nd ns p) (nd ns p).kids.length (nd ns p).refs.length 4:=by rw[sStatement,hk]
 have hn:=hs.1;obtain⟨b,off,ea,hb,hcc⟩:=hs.2 (by omega);have N:NodeCells w S b (off+p * 8) (nd ns p):=hcc p hp;clear hcc;generalize nd ns p=n at *;obtain⟨kind,line,op,num,flt,str,refs,kids⟩:=n;obtain⟨ra,rc,hr,hrI⟩:=N.refs;obtain⟨ka,kc,hkk,hkI⟩:=N.kids;have c0:=N.kind;have c1:=N.line;have c2:=N.op;have c3:=N.num;have c4:=N.flt;have c5:=N.str;have hss:=N.strs;have hrl:=hrI.1;simp only[stArm,sBare]at E;dsimp only at E hk hkl hr hrl hkk c0 c1 c2 c3 c4 c5 hss;clear N hrI hkI;subst hk;generalize kids.length=kl at *;generalize refs.length=rl at *;subst ea;have hK:(0:Int)<=kl:=by omega
 have hK2:(kl:Int)<=200:=by omega
 have HE:=hide E;clear E;have HS:=hide hs;have HB:=hide hB;clear hs hB;go_enter Tryz.func61,Tryz.ntmps61;go_wp2_with (first
  | (go_at_call 77;refine(l3kid_from w _ (unhide HS) (unhide HB) hp _ (by omega) (by omega) (by exact hbA _)).mono ?_;rintro e w' ⟨rfl,rfl⟩)
  | (go_at_call 79;refine(l3exprs_from w _ (unhide HS) (unhide HB) hp _ _ (by omega) (by omega) (by omega) (by first | exact hbA _ | exact(hbA _).trans (hb'.mono (by simp)))).mono ?_;rintro e w' ⟨rfl,rfl⟩)
  | (go_at_call 81;refine(l3many_any _ _).mono ?_;rintro e w' ⟨rfl,rfl⟩)
  | (go_at_call 78;refine(l3bare_any _ _ _ _ _ _ _ _ _ _ _ _ _ _ _ _ _ _).mono ?_;rintro e w' ⟨rfl,hb'⟩))
 all_goals
  go_ret;have E:=unhide HE;refine⟨ret_bool ?_,?_⟩
  ·rw[E];first | (simp[*];done) | (simp[*]<;>omega)
  ·first | exact hbA _ | exact(hbA _).trans (hb'.mono (by simp))
theorem st5 (a:Option Addr)(ns:List NodeD)(c p:Nat)(S:Nat->Prop)(w:World)(hs:NodesAt w S a ns)(hB:∀ b,S b->b<w.heap.size)(hp:p<ns.length)(hkl:(nd ns p).kids.length<=200)(hk:(nd ns p).kind=5) :
  Calls Tryz.prog 61 #[.slice a ns.length c,.int .i64 p] w fun e w'=>e=.returned (.bool (sStatement ns p))/\Below w.heap.size w w':=by
 have hbA:∀ o,Below w.heap.size w (w.alloc o):=fun o=>(Below.refl _ _).alloc (Nat.le_refl _) o;have E:sStatement ns p=stArm ns p (nd ns p) (nd ns p).kids.length (nd ns p).refs.length 5:=by rw[sStatement,hk]
 have hn:=hs.1;obtain⟨b,off,ea,hb,hcc⟩:=hs.2 (by omega);have N:NodeCells w S b (off+p * 8) (nd ns p):=hcc p hp;clear hcc;generalize nd ns p=n at *;obtain⟨kind,line,op,num,flt,str,refs,kids⟩:=n;obtain⟨ra,rc,hr,hrI⟩:=N.refs;obtain⟨ka,kc,hkk,hkI⟩:=N.kids;have c0:=N.kind;have c1:=N.line;have c2:=N.op;have c3:=N.num;have c4:=N.flt;have c5:=N.str;have hss:=N.strs;have hrl:=hrI.1;simp only[stArm,sBare]at E;dsimp only at E hk hkl hr hrl hkk c0 c1 c2 c3 c4 c5 hss;clear N hrI hkI;subst hk;generalize kids.length=kl at *;generalize refs.length=rl at *;subst ea;have hK:(0:Int)<=kl:=by omega
 have hK2:(kl:Int)<=200:=by omega
 have HE:=hide E;clear E;have HS:=hide hs;have HB:=hide hB;clear hs hB;go_enter Tryz.func61,Tryz.ntmps61;go_wp2_with (first
  | (go_at_call 77;refine(l3kid_from w _ (unhide HS) (unhide HB) hp _ (by omega) (by omega) (by exact hbA _)).mono ?_;rintro e w' ⟨rfl,rfl⟩)
  | (go_at_call 79;refine(l3exprs_from w _ (unhide HS) (unhide HB) hp _ _ (by omega) (by omega) (by omega) (by first | exact hbA _ | exact(hbA _).trans (hb'.mono (by simp)))).mono ?_;rintro e w' ⟨rfl,rfl⟩)
  | (go_at_call 81;refine(l3many_any _ _).mono ?_;rintro e w' ⟨rfl,rfl⟩)
  | (go_at_call 78;refine(l3bare_any _ _ _ _ _ _ _ _ _ _ _ _ _ _ _ _ _ _).mono ?_;rintro e w' ⟨rfl,hb'⟩))
 all_goals
  go_ret;have E:=unhide HE;refine⟨ret_bool ?_,?_⟩
  ·rw[E];first | (simp[*];done) | (simp[*]<;>omega)
  ·first | exact hbA _ | exact(hbA _).trans (hb'.mono (by simp))
theorem st6 (a:Option Addr)(ns:List NodeD)(c p:Nat)(S:Nat->Prop)(w:World)(hs:NodesAt w S a ns)(hB:∀ b,S b->b<w.heap.size)(hp:p<ns.length)(hkl:(nd ns p).kids.length<=200)(hk:(nd ns p).kind=6) :
  Calls Tryz.prog 61 #[.slice a ns.length c,.int .i64 p] w fun e w'=>e=.returned (.bool (sStatement ns p))/\Below w.heap.size w w':=by
 have hbA:∀ o,Below w.heap.size w (w.alloc o):=fun o=>(Below.refl _ _).alloc (Nat.le_refl _) o;have E:sStatement ns p=stArm ns p (nd ns p) (nd ns p).kids.length (nd ns p).refs.length 6:=by rw[sStatement,hk]
 have hn:=hs.1;obtain⟨b,off,ea,hb,hcc⟩:=hs.2 (by omega);have N:NodeCells w S b (off+p * 8) (nd ns p):=hcc p hp;clear hcc;generalize nd ns p=n at *;obtain⟨kind,line,op,num,flt,str,refs,kids⟩:=n;obtain⟨ra,rc,hr,hrI⟩:=N.refs;obtain⟨ka,kc,hkk,hkI⟩:=N.kids;have c0:=N.kind;have c1:=N.line;have c2:=N.op;have c3:=N.num;have c4:=N.flt;have c5:=N.str;have hss:=N.strs;have hrl:=hrI.1;simp only[stArm,sBlock,sBare]at E;dsimp only at E hk hkl hr hrl hkk c0 c1 c2 c3 c4 c5 hss;clear N hrI hkI;subst hk;generalize kids.length=kl at *;generalize refs.length=rl at *;subst ea;have hK:(0:Int)<=kl:=by omega
 have hK2:(kl:Int)<=200:=by omega
 have HE:=hide E;clear E;have HS:=hide hs;have HB:=hide hB;clear hs hB;go_enter Tryz.func61,Tryz.ntmps61;go_wp2_with (first
  | (go_at_call 77;refine(l3kid_from w _ (unhide HS) (unhide HB) hp _ (by omega) (by omega) (by exact hbA _)).mono ?_;rintro e w' ⟨rfl,rfl⟩)
  | (go_at_call 79;refine(l3exprs_from w _ (unhide HS) (unhide HB) hp _ _ (by omega) (by omega) (by omega) (by first | exact hbA _ | exact(hbA _).trans (hb'.mono (by simp)))).mono ?_;rintro e w' ⟨rfl,rfl⟩)
  | (go_at_call 81;refine(l3many_any _ _).mono ?_;rintro e w' ⟨rfl,rfl⟩)
  | (go_at_call 78;refine(l3bare_any _ _ _ _ _ _ _ _ _ _ _ _ _ _ _ _ _ _).mono ?_;rintro e w' ⟨rfl,hb'⟩))
 all_goals
  go_ret;have E:=unhide HE;refine⟨ret_bool ?_,?_⟩
  ·rw[E];first | (simp[*];done) | (simp[*]<;>omega)
  ·first | exact hbA _ | exact(hbA _).trans (hb'.mono (by simp))
theorem st7 (a:Option Addr)(ns:List NodeD)(c p:Nat)(S:Nat->Prop)(w:World)(hs:NodesAt w S a ns)(hB:∀ b,S b->b<w.heap.size)(hp:p<ns.length)(hkl:(nd ns p).kids.length<=200)(hk:(nd ns p).kind=7) :
  Calls Tryz.prog 61 #[.slice a ns.length c,.int .i64 p] w fun e w'=>e=.returned (.bool (sStatement ns p))/\Below w.heap.size w w':=by
 have hbA:∀ o,Below w.heap.size w (w.alloc o):=fun o=>(Below.refl _ _).alloc (Nat.le_refl _) o;have E:sStatement ns p=stArm ns p (nd ns p) (nd ns p).kids.length (nd ns p).refs.length 7:=by rw[sStatement,hk]
 have hn:=hs.1;obtain⟨b,off,ea,hb,hcc⟩:=hs.2 (by omega);have N:NodeCells w S b (off+p * 8) (nd ns p):=hcc p hp;clear hcc;generalize nd ns p=n at *;obtain⟨kind,line,op,num,flt,str,refs,kids⟩:=n;obtain⟨ra,rc,hr,hrI⟩:=N.refs;obtain⟨ka,kc,hkk,hkI⟩:=N.kids;have c0:=N.kind;have c1:=N.line;have c2:=N.op;have c3:=N.num;have c4:=N.flt;have c5:=N.str;have hss:=N.strs;have hrl:=hrI.1;simp only[stArm,sBlock,sBare]at E;dsimp only at E hk hkl hr hrl hkk c0 c1 c2 c3 c4 c5 hss;clear N hrI hkI;subst hk;generalize kids.length=kl at *;generalize refs.length=rl at *;subst ea;have hK:(0:Int)<=kl:=by omega
 have hK2:(kl:Int)<=200:=by omega
 have HE:=hide E;clear E;have HS:=hide hs;have HB:=hide hB;clear hs hB;go_enter Tryz.func61,Tryz.ntmps61;go_wp2_with (first
  | (go_at_call 77;refine(l3kid_from w _ (unhide HS) (unhide HB) hp _ (by omega) (by omega) (by exact hbA _)).mono ?_;rintro e w' ⟨rfl,rfl⟩)
  | (go_at_call 79;refine(l3exprs_from w _ (unhide HS) (unhide HB) hp _ _ (by omega) (by omega) (by omega) (by first | exact hbA _ | exact(hbA _).trans (hb'.mono (by simp)))).mono ?_;rintro e w' ⟨rfl,rfl⟩)
  | (go_at_call 81;refine(l3many_any _ _).mono ?_;rintro e w' ⟨rfl,rfl⟩)
  | (go_at_call 78;refine(l3bare_any _ _ _ _ _ _ _ _ _ _ _ _ _ _ _ _ _ _).mono ?_;rintro e w' ⟨rfl,hb'⟩))
 all_goals
  go_ret;have E:=unhide HE;refine⟨ret_bool ?_,?_⟩
  ·rw[E];first | (simp[*];done) | (simp[*]<;>omega)
  ·first | exact hbA _ | exact(hbA _).trans (hb'.mono (by simp))
theorem st8 (a:Option Addr)(ns:List NodeD)(c p:Nat)(S:Nat->Prop)(w:World)(hs:NodesAt w S a ns)(hB:∀ b,S b->b<w.heap.size)(hp:p<ns.length)(hkl:(nd ns p).kids.length<=200)(hk:(nd ns p).kind=8) :
  Calls Tryz.prog 61 #[.slice a ns.length c,.int .i64 p] w fun e w'=>e=.returned (.bool (sStatement ns p))/\Below w.heap.size w w':=by
 have hbA:∀ o,Below w.heap.size w (w.alloc o):=fun o=>(Below.refl _ _).alloc (Nat.le_refl _) o;have E:sStatement ns p=stArm ns p (nd ns p) (nd ns p).kids.length (nd ns p).refs.length 8:=by rw[sStatement,hk]
 have hn:=hs.1;obtain⟨b,off,ea,hb,hcc⟩:=hs.2 (by omega);have N:NodeCells w S b (off+p * 8) (nd ns p):=hcc p hp;clear hcc;generalize nd ns p=n at *;obtain⟨kind,line,op,num,flt,str,refs,kids⟩:=n;obtain⟨ra,rc,hr,hrI⟩:=N.refs;obtain⟨ka,kc,hkk,hkI⟩:=N.kids;have c0:=N.kind;have c1:=N.line;have c2:=N.op;have c3:=N.num;have c4:=N.flt;have c5:=N.str;have hss:=N.strs;have hrl:=hrI.1;simp only[stArm,sBlock,sBare]at E;dsimp only at E hk hkl hr hrl hkk c0 c1 c2 c3 c4 c5 hss;clear N hrI hkI;subst hk;generalize kids.length=kl at *;generalize refs.length=rl at *;subst ea;have hK:(0:Int)<=kl:=by omega
 have hK2:(kl:Int)<=200:=by omega
 have HE:=hide E;clear E;have HS:=hide hs;have HB:=hide hB;clear hs hB;go_enter Tryz.func61,Tryz.ntmps61;go_wp2_with (first
  | (go_at_call 77;refine(l3kid_from w _ (unhide HS) (unhide HB) hp _ (by omega) (by omega) (by exact hbA _)).mono ?_;rintro e w' ⟨rfl,rfl⟩)
  | (go_at_call 79;refine(l3exprs_from w _ (unhide HS) (unhide HB) hp _ _ (by omega) (by omega) (by omega) (by first | exact hbA _ | exact(hbA _).trans (hb'.mono (by simp)))).mono ?_;rintro e w' ⟨rfl,rfl⟩)
  | (go_at_call 81;refine(l3many_any _ _).mono ?_;rintro e w' ⟨rfl,rfl⟩)
  | (go_at_call 78;refine(l3bare_any _ _ _ _ _ _ _ _ _ _ _ _ _ _ _ _ _ _).mono ?_;rintro e w' ⟨rfl,hb'⟩))
 all_goals
  go_ret;have E:=unhide HE;refine⟨ret_bool ?_,?_⟩
  ·rw[E];first | (simp[*];done) | (simp[*]<;>omega)
  ·first | exact hbA _ | exact(hbA _).trans (hb'.mono (by simp))
end Go.Proofs.YtofcbekoaghikaaGreatDoor

import Derived.Test.YtofcbekoaghikaaGreatDoorPart06
import Derived.Test.YtofcbekoaghikaaGreatDoorPart07
import Derived.Test.YtofcbekoaghikaaGreatDoorPart08
set_option linter.unusedSimpArgs false
set_option linter.unusedVariables false
set_option maxHeartbeats 4000000
set_option maxRecDepth 100000
namespace Go.Proofs.YtofcbekoaghikaaGreatDoor
open Go.RowKit
attribute [local go_sem] run_store_float
theorem l3statement_any (a:Option Addr)(ns:List NodeD)(c p:Nat)(S:Nat->Prop)(w:World)(hs:NodesAt w S a ns)(hB:∀ b,S b->b<w.heap.size)(hp:p<ns.length)(hkl:(nd ns p).kids.length<=200)(h1:1<=(nd ns p).kind)(h2:(nd ns p).kind<=14) :
  Calls Tryz.prog 61 #[.slice a ns.length c,.int .i64 p] w fun e w'=>e=.returned (.bool (sStatement ns p))/\Below w.heap.size w w':=by
 have h:(nd ns p).kind=1\/(nd ns p).kind=2\/(nd ns p).kind=3\/(nd ns p).kind=4\/(nd ns p).kind=5\/(nd ns p).kind=6\/(nd ns p).kind=7\/(nd ns p).kind=8\/(nd ns p).kind=9\/(nd ns p).kind=10\/(nd ns p).kind=11\/(nd ns p).kind=12\/(nd ns p).kind=13\/(nd ns p).kind=14:=by omega
 rcases h with h | h | h | h | h | h | h | h | h | h | h | h | h | h
 ·exact st1 a ns c p S w hs hB hp hkl h
 ·exact st2 a ns c p S w hs hB hp hkl h
 ·exact st3 a ns c p S w hs hB hp hkl h
 ·exact st4 a ns c p S w hs hB hp hkl h
 ·exact st5 a ns c p S w hs hB hp hkl h
 ·exact st6 a ns c p S w hs hB hp hkl h
 ·exact st7 a ns c p S w hs hB hp hkl h
 ·exact st8 a ns c p S w hs hB hp hkl h
 ·exact st9 a ns c p S w hs hB hp hkl h
 ·exact st10 a ns c p S w hs hB hp hkl h
 ·exact st11 a ns c p S w hs hB hp hkl h
 ·exact st12 a ns c p S w hs hB hp hkl h
 ·exact st13 a ns c p S w hs hB hp hkl h
 ·exact st14 a ns c p S w hs hB hp hkl h
theorem exArm_other (ns:List NodeD)(p:Nat)(n:NodeD)(k kind:Int)(h:kind<20\/38<kind):exArm ns p n k kind=false:=by
 unfold exArm;split<;>first | rfl | omega
theorem exOther (a:Option Addr)(ns:List NodeD)(c p:Nat)(S:Nat->Prop)(w:World)(hs:NodesAt w S a ns)(hB:∀ b,S b->b<w.heap.size)(hp:p<ns.length)(hkl:(nd ns p).kids.length<=200)(hk:(nd ns p).kind<20\/38<(nd ns p).kind) :
  Calls Tryz.prog 62 #[.slice a ns.length c,.int .i64 p] w fun e w'=>e=.returned (.bool (sExpression ns p))/\Below w.heap.size w w':=by
 have hbA:∀ o,Below w.heap.size w (w.alloc o):=fun o=>(Below.refl _ _).alloc (Nat.le_refl _) o;have E:sExpression ns p=false:=exArm_other _ _ _ _ _ hk;have hn:=hs.1;obtain⟨b,off,ea,hb,hcc⟩:=hs.2 (by omega);have N:NodeCells w S b (off+p * 8) (nd ns p):=hcc p hp;clear hcc;generalize nd ns p=n at *;obtain⟨kind,line,op,num,flt,str,refs,kids⟩:=n;obtain⟨ra,rc,hr,hrI⟩:=N.refs;obtain⟨ka,kc,hkk,hkI⟩:=N.kids;have c0:=N.kind;have c1:=N.line;have c2:=N.op;have c3:=N.num;have c4:=N.flt;have c5:=N.str;dsimp only at hk hkl hr hkk c0 c1 c2 c3 c4 c5;clear N hrI hkI;have n20:¬kind=20:=by omega
 have n21:¬kind=21:=by omega
 have n22:¬kind=22:=by omega
 have n23:¬kind=23:=by omega
 have n24:¬kind=24:=by omega
 have n25:¬kind=25:=by omega
 have n26:¬kind=26:=by omega
 have n27:¬kind=27:=by omega
 have n28:¬kind=28:=by omega
 have n29:¬kind=29:=by omega
 have n30:¬kind=30:=by omega
 have n31:¬kind=31:=by omega
 have n32:¬kind=32:=by omega
 have n33:¬kind=33:=by omega
 have n34:¬kind=34:=by omega
 have n35:¬kind=35:=by omega
 have n36:¬kind=36:=by omega
 have n37:¬kind=37:=by omega
 have n38:¬kind=38:=by omega
 clear hk;generalize kids.length=kl at *;generalize refs.length=rl at *;subst ea;have hK:(0:Int)<=kl:=by omega
 have hK2:(kl:Int)<=200:=by omega
 have HE:=hide E;clear E;have HS:=hide hs;have HB:=hide hB;clear hs hB;go_enter Tryz.func62,Tryz.ntmps62;go_wp2_with (first
  | (go_at_call 79;refine(l3exprs_from w _ (unhide HS) (unhide HB) hp _ _ (by omega) (by omega) (by omega) (by exact hbA _)).mono ?_;rintro e w' ⟨rfl,rfl⟩))
 all_goals
  go_ret;exact⟨ret_bool (unhide HE).symm,hbA _⟩
theorem l3expression_any (a:Option Addr)(ns:List NodeD)(c p:Nat)(S:Nat->Prop)(w:World)(hs:NodesAt w S a ns)(hB:∀ b,S b->b<w.heap.size)(hp:p<ns.length)(hkl:(nd ns p).kids.length<=200) :
  Calls Tryz.prog 62 #[.slice a ns.length c,.int .i64 p] w fun e w'=>e=.returned (.bool (sExpression ns p))/\Below w.heap.size w w':=by
 have h:(nd ns p).kind=20\/(nd ns p).kind=21\/(nd ns p).kind=22\/(nd ns p).kind=23\/(nd ns p).kind=24\/(nd ns p).kind=25\/(nd ns p).kind=26\/(nd ns p).kind=27\/(nd ns p).kind=28\/(nd ns p).kind=29\/(nd ns p).kind=30\/(nd ns p).kind=31\/(nd ns p).kind=32\/(nd ns p).kind=33\/(nd ns p).kind=34\/(nd ns p).kind=35\/(nd ns p).kind=36\/(nd ns p).kind=37\/(nd ns p).kind=38\/((nd ns p).kind<20\/38<(nd ns p).kind):=by omega
 rcases h with h | h | h | h | h | h | h | h | h | h | h | h | h | h | h | h | h | h | h | h
 ·exact ex20 a ns c p S w hs hB hp hkl h
 ·exact ex21 a ns c p S w hs hB hp hkl h
 ·exact ex22 a ns c p S w hs hB hp hkl h
 ·exact ex23 a ns c p S w hs hB hp hkl h
 ·exact ex24 a ns c p S w hs hB hp hkl h
 ·exact ex25 a ns c p S w hs hB hp hkl h
 ·exact ex26 a ns c p S w hs hB hp hkl h
 ·exact ex27 a ns c p S w hs hB hp hkl h
 ·exact ex28 a ns c p S w hs hB hp hkl h
 ·exact ex29 a ns c p S w hs hB hp hkl h
 ·exact ex30 a ns c p S w hs hB hp hkl h
 ·exact ex31 a ns c p S w hs hB hp hkl h
 ·exact ex32 a ns c p S w hs hB hp hkl h
 ·exact ex33 a ns c p S w hs hB hp hkl h
 ·exact ex34 a ns c p S w hs hB hp hkl h
 ·exact ex35 a ns c p S w hs hB hp hkl h
 ·exact ex36 a ns c p S w hs hB hp hkl h
 ·exact ex37 a ns c p S w hs hB hp hkl h
 ·exact ex38 a ns c p S w hs hB hp hkl h
 ·exact exOther a ns c p S w hs hB hp hkl h
theorem l3statement_from {a:Option Addr}{ns:List NodeD}{c p:Nat}{S:Nat->Prop}(w W:World)(hs:NodesAt w S a ns)(hB:∀ b,S b->b<w.heap.size)(hp:p<ns.length)(hkl:(nd ns p).kids.length<=200)(h1:1<=(nd ns p).kind)(h2:(nd ns p).kind<=14)(hW:Below w.heap.size w W) :
  Calls Tryz.prog 61 #[.slice a ns.length c,.int .i64 p] W fun e w'=>e=.returned (.bool (sStatement ns p))/\Below W.heap.size W w':=
 l3statement_any a ns c p S W (hs.keep hW hB) (fun b h=>Nat.lt_of_lt_of_le (hB b h) hW.size) hp hkl h1 h2
theorem l3expression_from {a:Option Addr}{ns:List NodeD}{c p:Nat}{S:Nat->Prop}(w W:World)(hs:NodesAt w S a ns)(hB:∀ b,S b->b<w.heap.size)(hp:p<ns.length)(hkl:(nd ns p).kids.length<=200)(hW:Below w.heap.size w W) :
  Calls Tryz.prog 62 #[.slice a ns.length c,.int .i64 p] W fun e w'=>e=.returned (.bool (sExpression ns p))/\Below W.heap.size W w':=
 l3expression_any a ns c p S W (hs.keep hW hB) (fun b h=>Nat.lt_of_lt_of_le (hB b h) hW.size) hp hkl
theorem l3shape_any (a:Option Addr)(ns:List NodeD)(c p:Nat)(S:Nat->Prop)(w:World)(hs:NodesAt w S a ns)(hB:∀ b,S b->b<w.heap.size)(hp:p<ns.length) :
  Calls Tryz.prog 39 #[.slice a ns.length c,.int .i64 p] w fun e w'=>e=.returned (.bool (sShape ns p))/\Below w.heap.size w w':=by
 have hbA:∀ o,Below w.heap.size w (w.alloc o):=fun o=>(Below.refl _ _).alloc (Nat.le_refl _) o;have hn:=hs.1;obtain⟨b,off,ea,hb,hcc⟩:=hs.2 (by omega);have N:NodeCells w S b (off+p * 8) (nd ns p):=hcc p hp;clear hcc;have HS:=hide hs;have HB:=hide hB;clear hs;obtain⟨ra,rc,hr,hrI⟩:=N.refs;obtain⟨ka,kc,hkk,hkI⟩:=N.kids;have c0:=N.kind;have c1:=N.line;have c2:=N.op;have c3:=N.num;have c4:=N.flt;have c5:=N.str;clear N hrI;have hkl:=hkI.1;by_cases q1:200<(nd ns p).kids.length
 ·have E:Hid (sShape ns p=false):=by
   show _=_;have:¬nkids ns p<=200:=by unfold nkids;omega
   simp[sShape,this]
  clear HS HB hB hkI;generalize nd ns p=n at *;subst ea;go_enter Tryz.func39,Tryz.ntmps39;go_wp2_with fail
  go_ret;exact⟨ret_bool (unhide E).symm,hbA _⟩
 have E:sShape ns p=(allFrom (fun i=>kidOk p (kidI (nd ns p) i)) 0 (nd ns p).kids.length &&
   (if isStat (nd ns p).kind then decide (1<=(nd ns p).line)&&decide ((nd ns p).line<=100000)&&sStatement ns p else(nd ns p).line==0&&sExpression ns p)):=by
  have h2:decide ((nd ns p).kids.length<=200)=true:=by simp;omega
  show((decide ((nd ns p).kids.length<=200))&&_&&_)=_;rw[h2,Bool.true_and];rfl
 have HE:=hide E;have HST:Hid (∀ W,Below w.heap.size w W->1<=(nd ns p).kind->(nd ns p).kind<=14->Calls Tryz.prog 61 #[.slice (some ⟨b,off,none⟩) ns.length c,.int .i64 p] W fun e w'=>e=.returned (.bool (sStatement ns p))/\Below W.heap.size W w'):=
  fun W hW h1 h2=>by subst ea;exact l3statement_from w W (unhide HS) (unhide HB) hp (by omega) h1 h2 hW
 have HEX:Hid (∀ W,Below w.heap.size w W->Calls Tryz.prog 62 #[.slice (some ⟨b,off,none⟩) ns.length c,.int .i64 p] W fun e w'=>e=.returned (.bool (sExpression ns p))/\Below W.heap.size W w'):=
  fun W hW=>by subst ea;exact l3expression_from w W (unhide HS) (unhide HB) hp (by omega) hW
 clear E;generalize sStatement ns p=sst at *;generalize sExpression ns p=sex at *;generalize sShape ns p=ssh at *;generalize nd ns p=n at *;obtain⟨kind,line,op,num,flt,str,refs,kids⟩:=n;dsimp only at hr hkk hkI hkl q1 c0 c1 c2 c3 c4 c5;subst ea;have hq:(decide (200<kids.length))=false:=by simp;omega
 have hS2:∀ b,S b->b<w.heap.size:=unhide HB;clear hB;go_enter Tryz.func39,Tryz.ntmps39;go_wp2_with fail
 go_loop [19] (fun i=>∃(k:Nat),k<=kids.length/\i=.int .i64 k/\Hid (∀ j,0<=j->j<k->kidOk p (kids[j]?.getD 0)=true)) (fun i=>kids.length-(intOf i).toNat)
 case atStart=>exact⟨0,by omega,rfl,fun j h1 h2=>absurd h2 (Nat.not_lt_zero _)⟩
 case round=>
  obtain⟨k,hk,rfl,hall⟩:=hrel;by_cases hlt:k<kids.length
  ·obtain⟨b2,off2,rfl,hb2,hc2⟩:=hkI.2 (by omega);have hcl:w.cell? ⟨b2,off2+k,none⟩=some (.int .i64 (kids[k]?.getD 0)):=hc2 k hlt;have hlt2:b2<w.heap.size:=hS2 b2 hb2;clear hc2 hkI hS2;by_cases r1:kids[k]?.getD 0<0
   ·have HR:Hid (kidOk p (kids[k]?.getD 0)=false):=by show _=_;simp[kidOk];omega
    have HR2:=HR;generalize kids[k]?.getD 0=x at hcl r1 HR;go_wp2_with fail
    go_ret;have E:ssh=(allFrom (fun i=>kidOk p (kids[i]?.getD 0)) 0 kids.length&&(if isStat kind then decide (1<=line)&&decide (line<=100000)&&sst else line==0&&sex)):=unhide HE;exact⟨ret_bool (by rw[E,allFrom_false (q:=fun i=>kidOk p (kids[i]?.getD 0)) (Nat.zero_le k) hlt (unhide HR2)];rfl),hbA _⟩
   ·by_cases r2:(p:Int)<=kids[k]?.getD 0
    ·have HR:Hid (kidOk p (kids[k]?.getD 0)=false):=by show _=_;simp[kidOk];omega
     have HR2:=HR;generalize kids[k]?.getD 0=x at hcl r1 r2 HR;go_wp2_with fail
     go_ret;have E:ssh=(allFrom (fun i=>kidOk p (kids[i]?.getD 0)) 0 kids.length&&(if isStat kind then decide (1<=line)&&decide (line<=100000)&&sst else line==0&&sex)):=unhide HE;exact⟨ret_bool (by rw[E,allFrom_false (q:=fun i=>kidOk p (kids[i]?.getD 0)) (Nat.zero_le k) hlt (unhide HR2)];rfl),hbA _⟩
    ·have HR:Hid (kidOk p (kids[k]?.getD 0)=true):=by show _=_;simp[kidOk];omega
     have HR2:=HR;generalize kids[k]?.getD 0=x at hcl r1 r2 HR;go_wp2_with fail
     go_round
     case rel=>
      refine⟨k+1,by omega,by go_num,fun j h1 h2=>?_⟩;by_cases e:j=k
      ·subst e;exact unhide HR2
      ·exact hall.out j h1 (by omega)
     case measure=>simp[intOf];omega
  ·have E:ssh=(allFrom (fun i=>kidOk p (kids[i]?.getD 0)) 0 kids.length&&(if isStat kind then decide (1<=line)&&decide (line<=100000)&&sst else line==0&&sex)):=unhide HE;rw[allFrom_true (fun j h1 h2=>hall.out j h1 (by omega)),Bool.true_and]at E;have HE2:=hide E;clear E HE hkI hS2;go_wp2_with fail
   refine(l3stat_any _ _).mono ?_;rintro e w' ⟨rfl,rfl⟩;cases hst:isStat kind
   ·have E:=unhide HE2;rw[hst]at E;simp only[Bool.false_eq_true,if_false]at E;have HE3:=hide E;clear E HE2 hst;cases hl0:line==0
    ·go_wp2_with fail
     go_ret;have E:=unhide HE3;exact⟨ret_bool (by rw[E,hl0];rfl),hbA _⟩
    ·go_wp2_with fail
     refine(unhide HEX _ (hbA _)).mono ?_;rintro e w' ⟨rfl,hb'⟩;go_wp2_with fail
     go_ret;have E:=unhide HE3;exact⟨ret_bool (by rw[E,hl0];rfl),(hbA _).trans (hb'.mono (by simp))⟩
   ·have hk12:1<=kind/\kind<=14:=by simpa[isStat]using hst
    have E:=unhide HE2;rw[hst]at E;simp only[if_true]at E;have HE3:=hide E;have HK:=hide hk12;clear E HE2 hst hk12;by_cases l1:1<=line
    ·by_cases l2:line<=100000
     ·have d1:decide (1<=line)=true:=by simp;omega
      have d2:decide (line<=100000)=true:=by simp;omega
      go_wp2_with fail
      refine(unhide HST _ (hbA _) (unhide HK).1 (unhide HK).2).mono ?_;rintro e w' ⟨rfl,hb'⟩;go_wp2_with fail
      go_ret;have E:=unhide HE3;exact⟨ret_bool (by rw[E,d1,d2];rfl),(hbA _).trans (hb'.mono (by simp))⟩
     ·have d2:decide (line<=100000)=false:=by simp;omega
      go_wp2_with fail
      go_ret;have E:=unhide HE3;exact⟨ret_bool (by rw[E,d2];simp),hbA _⟩
    ·have d1:decide (1<=line)=false:=by simp;omega
     go_wp2_with fail
     go_ret;have E:=unhide HE3;exact⟨ret_bool (by rw[E,d1];simp),hbA _⟩
def fnD (l:List FnD)(f:Nat):FnD:=l[f]?.getD FnD.z
theorem l3name_any (s:ByteArray)(least:Int)(w:World):Calls Tryz.prog 59 #[.string s,.int .i64 least] w fun e w'=>e=.returned (.bool (sName s least))/\w'=w:=by
 by_cases h1:least<=s.size
 ·by_cases h2:(s.size:Int)<=40
  ·go_enter Tryz.func59,Tryz.ntmps59
   go_wp2
   go_ret;exact⟨by simp[sName];omega,rfl⟩
  ·go_enter Tryz.func59,Tryz.ntmps59
   go_wp2
   go_ret;exact⟨by simp[sName];omega,rfl⟩
 ·go_enter Tryz.func59,Tryz.ntmps59
  go_wp2
  go_ret;exact⟨by simp[sName];omega,rfl⟩
theorem l3fault_any (x f n:Int)(w:World):Calls Tryz.prog 37 #[.int .i64 x,.int .i64 f,.int .i64 n] w fun e w'=>e=.returned (.agg #[.int .i64 x,.int .i64 f,.int .i64 n])/\Below w.heap.size w w':=by
 go_enter Tryz.func37,Tryz.ntmps37
 go_wp2
 exact bodyPost_ret (v:=.agg #[.int .i64 x,.int .i64 f,.int .i64 n]) (by simp[results,Tryz.results37,go_sem]) rfl ⟨rfl,by repeat (first | refine Below.alloc ?_ (by simp<;>omega) _ | exact Below.refl _ _)⟩
def headBad (x:FnD)(f:Nat):Prop:=
 x.nodes.length=0\/200<x.vars.length\/200<x.ups.length\/x.params<0\/(x.vars.length:Int)<x.params\/x.line<0\/100000<x.line\/sName x.name 0=false\/(f=0/\(0<x.params\/0<x.ups.length))
theorem sHead_bad {l:List FnD}{f:Nat}(h:headBad (fnD l f) f):sHead l f=false:=by
 have e:fnD l f=l[f]?.getD FnD.z:=rfl;rw[e]at h;unfold sHead;generalize l[f]?.getD FnD.z=x at *;dsimp only;rcases h with h | h | h | h | h | h | h | h | ⟨h1,h2⟩
 ·simp[h]
 ·have:¬x.vars.length<=200:=by omega
  simp[this]
 ·have:¬x.ups.length<=200:=by omega
  simp[this]
 ·have:¬0<=x.params:=by omega
  simp[this]
 ·have:¬x.params<=x.vars.length:=by omega
  simp[this]
 ·have:¬0<=x.line:=by omega
  simp[this]
 ·have:¬x.line<=100000:=by omega
  simp[this]
 ·simp[h]
 ·have:(f==0&&(decide (0<x.params)||decide (0<x.ups.length)))=true:=by
   subst h1;rcases h2 with h2 | h2<;>simp[h2]
  simp[this]
theorem sHead_good {l:List FnD}{f:Nat}(h:¬headBad (fnD l f) f):sHead l f=allFrom (fun i=>sName ((fnD l f).vars[i]?.getD ByteArray.empty) 1) 0 (fnD l f).vars.length:=by
 have e:fnD l f=l[f]?.getD FnD.z:=rfl;rw[e]at h ⊢;unfold sHead;generalize l[f]?.getD FnD.z=x at *;dsimp only;unfold headBad at h;simp only[not_or,not_and]at h;obtain⟨h1,h2,h3,h4,h5,h6,h7,h8,h9⟩:=h;have e1:decide (x.nodes.length≠0)=true:=by simp;exact fun h=>h1 (by simp[h])
 have e2:decide (x.vars.length<=200)=true:=by simp;omega
 have e3:decide (x.ups.length<=200)=true:=by simp;omega
 have e4:decide (0<=x.params)=true:=by simp;omega
 have e5:decide (x.params<=x.vars.length)=true:=by simp;omega
 have e6:decide (0<=x.line)=true:=by simp;omega
 have e7:decide (x.line<=100000)=true:=by simp;omega
 have e8:sName x.name 0=true:=by simpa using h8
 have e9:(f==0&&(decide (0<x.params)||decide (0<x.ups.length)))=false:=by
  by_cases hf:f=0
  ·have h10:=h9 hf;have a1:decide (0<x.params)=false:=decide_eq_false (by omega);have a2:decide (0<x.ups.length)=false:=decide_eq_false (by omega);rw[a1,a2];simp
  ·simp[hf]
 rw[e1,e2,e3,e4,e5,e6,e7,e8,e9];rfl
theorem l3head_bad (a:Option Addr)(l:List FnD)(c f:Nat)(S:Nat->Prop)(w:World)(hs:FnsAt w S a l)(hB:∀ b,S b->b<w.heap.size)(hf:f<l.length)(hbad:headBad (fnD l f) f) :
  Calls Tryz.prog 38 #[.agg #[.slice a l.length c],.int .i64 f] w fun e w'=>e=.returned (.bool (sHead l f))/\Below w.heap.size w w':=by
 have hbA:∀ o1 o2,Below w.heap.size w ((w.alloc o1).alloc o2):=fun o1 o2=>((Below.refl _ _).alloc (Nat.le_refl _) o1).alloc (by simp) o2;have hn:=hs.1;obtain⟨b,off,ea,hb,hcc⟩:=hs.2 (by omega);have N:FnCells w S b (off+f * 7) (fnD l f):=hcc f hf;clear hcc;obtain⟨va,vc,hv,hvI⟩:=N.vars;obtain⟨ua,uc,hu,huI⟩:=N.ups;obtain⟨na,nc,hno,hnI⟩:=N.nodes;have c0:=N.name;have c1:=N.line;have c2:=N.params;have c3:=N.rest;have v1:=hvI.1;have u1:=huI.1;have n1:=hnI.1;have hbs:b<w.heap.size:=hB b hb;by_cases hA:(fnD l f).nodes.length=0
 ·have HE:Hid (sHead l f=false):=sHead_bad (by have hx:=hA;exact(.inl hx));clear hs N hvI huI hnI;generalize fnD l f=x at *;obtain⟨name,line,params,rest,vars,ups,nodes⟩:=x;dsimp only at *;subst ea;go_enter Tryz.func38,Tryz.ntmps38;go_wp2_with (go_at_call 59;refine(l3name_any _ _ _).mono ?_;rintro e w' ⟨rfl,rfl⟩)
  all_goals
   go_ret;exact⟨ret_bool (unhide HE).symm,hbA _ _⟩
 by_cases hB':200<(fnD l f).vars.length
 ·have HE:Hid (sHead l f=false):=sHead_bad (by have hx:=hB';exact(.inr (.inl hx)));clear hs N hvI huI hnI;generalize fnD l f=x at *;obtain⟨name,line,params,rest,vars,ups,nodes⟩:=x;dsimp only at *;subst ea;go_enter Tryz.func38,Tryz.ntmps38;go_wp2_with (go_at_call 59;refine(l3name_any _ _ _).mono ?_;rintro e w' ⟨rfl,rfl⟩)
  all_goals
   go_ret;exact⟨ret_bool (unhide HE).symm,hbA _ _⟩
 by_cases hC:200<(fnD l f).ups.length
 ·have HE:Hid (sHead l f=false):=sHead_bad (by have hx:=hC;exact(.inr (.inr (.inl hx))));clear hs N hvI huI hnI;generalize fnD l f=x at *;obtain⟨name,line,params,rest,vars,ups,nodes⟩:=x;dsimp only at *;subst ea;go_enter Tryz.func38,Tryz.ntmps38;go_wp2_with (go_at_call 59;refine(l3name_any _ _ _).mono ?_;rintro e w' ⟨rfl,rfl⟩)
  all_goals
   go_ret;exact⟨ret_bool (unhide HE).symm,hbA _ _⟩
 by_cases hD:(fnD l f).params<0
 ·have HE:Hid (sHead l f=false):=sHead_bad (by have hx:=hD;exact(.inr (.inr (.inr (.inl hx)))));clear hs N hvI huI hnI;generalize fnD l f=x at *;obtain⟨name,line,params,rest,vars,ups,nodes⟩:=x;dsimp only at *;subst ea;go_enter Tryz.func38,Tryz.ntmps38;go_wp2_with (go_at_call 59;refine(l3name_any _ _ _).mono ?_;rintro e w' ⟨rfl,rfl⟩)
  all_goals
   go_ret;exact⟨ret_bool (unhide HE).symm,hbA _ _⟩
 by_cases hE:((fnD l f).vars.length:Int)<(fnD l f).params
 ·have HE:Hid (sHead l f=false):=sHead_bad (by have hx:=hE;exact(.inr (.inr (.inr (.inr (.inl hx))))));clear hs N hvI huI hnI;generalize fnD l f=x at *;obtain⟨name,line,params,rest,vars,ups,nodes⟩:=x;dsimp only at *;subst ea;go_enter Tryz.func38,Tryz.ntmps38;go_wp2_with (go_at_call 59;refine(l3name_any _ _ _).mono ?_;rintro e w' ⟨rfl,rfl⟩)
  all_goals
   go_ret;exact⟨ret_bool (unhide HE).symm,hbA _ _⟩
 by_cases hF:(fnD l f).line<0
 ·have HE:Hid (sHead l f=false):=sHead_bad (by have hx:=hF;exact(.inr (.inr (.inr (.inr (.inr (.inl hx)))))));clear hs N hvI huI hnI;generalize fnD l f=x at *;obtain⟨name,line,params,rest,vars,ups,nodes⟩:=x;dsimp only at *;subst ea;go_enter Tryz.func38,Tryz.ntmps38;go_wp2_with (go_at_call 59;refine(l3name_any _ _ _).mono ?_;rintro e w' ⟨rfl,rfl⟩)
  all_goals
   go_ret;exact⟨ret_bool (unhide HE).symm,hbA _ _⟩
 by_cases hG:100000<(fnD l f).line
 ·have HE:Hid (sHead l f=false):=sHead_bad (by have hx:=hG;exact(.inr (.inr (.inr (.inr (.inr (.inr (.inl hx))))))));clear hs N hvI huI hnI;generalize fnD l f=x at *;obtain⟨name,line,params,rest,vars,ups,nodes⟩:=x;dsimp only at *;subst ea;go_enter Tryz.func38,Tryz.ntmps38;go_wp2_with (go_at_call 59;refine(l3name_any _ _ _).mono ?_;rintro e w' ⟨rfl,rfl⟩)
  all_goals
   go_ret;exact⟨ret_bool (unhide HE).symm,hbA _ _⟩
 by_cases hH:sName (fnD l f).name 0=false
 ·have HE:Hid (sHead l f=false):=sHead_bad (by have hx:=hH;exact(.inr (.inr (.inr (.inr (.inr (.inr (.inr (.inl hx)))))))));clear hs N hvI huI hnI;generalize fnD l f=x at *;obtain⟨name,line,params,rest,vars,ups,nodes⟩:=x;dsimp only at *;subst ea;go_enter Tryz.func38,Tryz.ntmps38;go_wp2_with (go_at_call 59;refine(l3name_any _ _ _).mono ?_;rintro e w' ⟨rfl,rfl⟩)
  all_goals
   go_ret;exact⟨ret_bool (unhide HE).symm,hbA _ _⟩
 have hH2:sName (fnD l f).name 0=true:=by simpa using hH
 by_cases hI:f=0/\(0<(fnD l f).params\/0<(fnD l f).ups.length)
 ·have HE:Hid (sHead l f=false):=sHead_bad (by have hx:=hI;exact(.inr (.inr (.inr (.inr (.inr (.inr (.inr (.inr hx)))))))));obtain⟨hf0,hI⟩:=hI;have hf1:((f:Int)==0)=true:=by simp[hf0]
  clear hH hf0;rcases hI with hI | hI
  all_goals
   clear hs N hvI huI hnI;generalize fnD l f=x at *;obtain⟨name,line,params,rest,vars,ups,nodes⟩:=x;dsimp only at *;subst ea;go_enter Tryz.func38,Tryz.ntmps38;go_wp2_with (go_at_call 59;refine(l3name_any _ _ _).mono ?_;rintro e w' ⟨rfl,rfl⟩)
   all_goals
    go_ret;exact⟨ret_bool (unhide HE).symm,hbA _ _⟩
 exact absurd hbad (by unfold headBad;rintro(h | h | h | h | h | h | h | h | h)<;>contradiction)
theorem l3head_good (a:Option Addr)(l:List FnD)(c f:Nat)(S:Nat->Prop)(w:World)(hs:FnsAt w S a l)(hB:∀ b,S b->b<w.heap.size)(hf:f<l.length)(hgood:¬headBad (fnD l f) f) :
  Calls Tryz.prog 38 #[.agg #[.slice a l.length c],.int .i64 f] w fun e w'=>e=.returned (.bool (sHead l f))/\Below w.heap.size w w':=by
 have hbA:∀ o1 o2,Below w.heap.size w ((w.alloc o1).alloc o2):=fun o1 o2=>((Below.refl _ _).alloc (Nat.le_refl _) o1).alloc (by simp) o2;have hn:=hs.1;obtain⟨b,off,ea,hb,hcc⟩:=hs.2 (by omega);have N:FnCells w S b (off+f * 7) (fnD l f):=hcc f hf;clear hcc;obtain⟨va,vc,hv,hvI⟩:=N.vars;obtain⟨ua,uc,hu,huI⟩:=N.ups;obtain⟨na,nc,hno,hnI⟩:=N.nodes;have c0:=N.name;have c1:=N.line;have c2:=N.params;have c3:=N.rest;have v1:=hvI.1;have u1:=huI.1;have n1:=hnI.1;have hbs:b<w.heap.size:=hB b hb;have E:=sHead_good (l:=l) (f:=f) hgood;have HE:=hide E;have HS:=hide hB;clear E hs N huI hnI hB;unfold headBad at hgood;simp only[not_or]at hgood;obtain⟨hA,hB',hC,hD,hE,hF,hG,hH,hI⟩:=hgood;have hH2:sName (fnD l f).name 0=true:=by simpa using hH
 clear hH;generalize fnD l f=x at *;obtain⟨name,line,params,rest,vars,ups,nodes⟩:=x;dsimp only at *;subst ea;have g1:((nodes.length:Int)==0)=false:=by simp;intro h;exact hA (by simp[h])
 have g2:decide ((200:Int)<vars.length)=false:=decide_eq_false (by omega);have g3:decide ((200:Int)<ups.length)=false:=decide_eq_false (by omega);have g2':decide (200<vars.length)=false:=decide_eq_false (by omega);have g3':decide (200<ups.length)=false:=decide_eq_false (by omega);have g4:decide (params<0)=false:=by simp;omega
 have g5:decide ((vars.length:Int)<params)=false:=by simp;omega
 have g6:decide (line<0)=false:=by simp;omega
 have g7:decide (100000<line)=false:=by simp;omega
 have hloop:∀(W:World),W=W->True:=fun _ _=>trivial;clear hloop;by_cases hf0:f=0
 ·have p1:¬0<params:=fun h=>hI ⟨hf0,.inl h⟩;have p2:¬0<ups.length:=fun h=>hI ⟨hf0,.inr h⟩;have d1:decide (0<params)=false:=decide_eq_false p1;have d2:decide (0<ups.length)=false:=decide_eq_false p2;have hf1:((f:Int)==0)=true:=by simp[hf0]
  clear hI hA hB' hC hD hE hF hG p1 p2 hf0;go_enter Tryz.func38,Tryz.ntmps38;go_wp2_with (go_at_call 59;refine(l3name_any _ _ _).mono ?_;rintro e w' ⟨rfl,rfl⟩)
  go_loop [74] (fun i=>∃(k:Nat),k<=vars.length/\i=.int .i64 k/\Hid (∀ j,0<=j->j<k->sName (vars[j]?.getD ByteArray.empty) 1=true)) (fun i=>vars.length-(intOf i).toNat)
  case atStart=>exact⟨0,by omega,rfl,fun j h1 h2=>absurd h2 (Nat.not_lt_zero _)⟩
  case round=>
   obtain⟨k,hk,rfl,hall⟩:=hrel;by_cases hlt:k<vars.length
   ·obtain⟨b2,off2,rfl,hb2,hc2⟩:=hvI.2 (by omega);have hcl:w.cell? ⟨b2,off2+k,none⟩=some (.string (vars[k]?.getD ByteArray.empty)):=(hc2 k hlt).2;have hlt2:b2<w.heap.size:=unhide HS b2 hb2;clear hc2 hvI;cases hq:sName (vars[k]?.getD ByteArray.empty) 1
    ·have HQ:=hide hq;have HQ2:=HQ;clear hq;generalize vars[k]?.getD ByteArray.empty=s at hcl HQ;go_wp2_with fail
     refine(l3name_any _ _ _).mono ?_;rintro e w' ⟨rfl,rfl⟩;rw[unhide HQ];go_wp2_with fail
     go_ret;exact⟨ret_bool (by rw[unhide HE,allFrom_false (q:=fun i=>sName (vars[i]?.getD ByteArray.empty) 1) (Nat.zero_le k) hlt (unhide HQ2)]),hbA _ _⟩
    ·have HQ:=hide hq;have HQ2:=HQ;clear hq;generalize vars[k]?.getD ByteArray.empty=s at hcl HQ;go_wp2_with fail
     refine(l3name_any _ _ _).mono ?_;rintro e w' ⟨rfl,rfl⟩;rw[unhide HQ];go_wp2_with fail
     go_round
     case rel=>
      refine⟨k+1,by omega,by go_num,fun j h1 h2=>?_⟩;by_cases e:j=k
      ·subst e;exact unhide HQ2
      ·exact hall.out j h1 (by omega)
     case measure=>simp[intOf];omega
   ·go_wp2_with fail
    go_ret;exact⟨ret_bool (by rw[unhide HE,allFrom_true (q:=fun i=>sName (vars[i]?.getD ByteArray.empty) 1) (fun j h1 h2=>hall.out j h1 (by omega))]),hbA _ _⟩
 ·have hf1:((f:Int)==0)=false:=by simp;omega
  clear hI hA hB' hC hD hE hF hG;go_enter Tryz.func38,Tryz.ntmps38;go_wp2_with (go_at_call 59;refine(l3name_any _ _ _).mono ?_;rintro e w' ⟨rfl,rfl⟩)
  go_loop [74] (fun i=>∃(k:Nat),k<=vars.length/\i=.int .i64 k/\Hid (∀ j,0<=j->j<k->sName (vars[j]?.getD ByteArray.empty) 1=true)) (fun i=>vars.length-(intOf i).toNat)
  case atStart=>exact⟨0,by omega,rfl,fun j h1 h2=>absurd h2 (Nat.not_lt_zero _)⟩
  case round=>
   obtain⟨k,hk,rfl,hall⟩:=hrel;by_cases hlt:k<vars.length
   ·obtain⟨b2,off2,rfl,hb2,hc2⟩:=hvI.2 (by omega);have hcl:w.cell? ⟨b2,off2+k,none⟩=some (.string (vars[k]?.getD ByteArray.empty)):=(hc2 k hlt).2;have hlt2:b2<w.heap.size:=unhide HS b2 hb2;clear hc2 hvI;cases hq:sName (vars[k]?.getD ByteArray.empty) 1
    ·have HQ:=hide hq;have HQ2:=HQ;clear hq;generalize vars[k]?.getD ByteArray.empty=s at hcl HQ;go_wp2_with fail
     refine(l3name_any _ _ _).mono ?_;rintro e w' ⟨rfl,rfl⟩;rw[unhide HQ];go_wp2_with fail
     go_ret;exact⟨ret_bool (by rw[unhide HE,allFrom_false (q:=fun i=>sName (vars[i]?.getD ByteArray.empty) 1) (Nat.zero_le k) hlt (unhide HQ2)]),hbA _ _⟩
    ·have HQ:=hide hq;have HQ2:=HQ;clear hq;generalize vars[k]?.getD ByteArray.empty=s at hcl HQ;go_wp2_with fail
     refine(l3name_any _ _ _).mono ?_;rintro e w' ⟨rfl,rfl⟩;rw[unhide HQ];go_wp2_with fail
     go_round
     case rel=>
      refine⟨k+1,by omega,by go_num,fun j h1 h2=>?_⟩;by_cases e:j=k
      ·subst e;exact unhide HQ2
      ·exact hall.out j h1 (by omega)
     case measure=>simp[intOf];omega
   ·go_wp2_with fail
    go_ret;exact⟨ret_bool (by rw[unhide HE,allFrom_true (q:=fun i=>sName (vars[i]?.getD ByteArray.empty) 1) (fun j h1 h2=>hall.out j h1 (by omega))]),hbA _ _⟩
theorem l3head_any (a:Option Addr)(l:List FnD)(c f:Nat)(S:Nat->Prop)(w:World)(hs:FnsAt w S a l)(hB:∀ b,S b->b<w.heap.size)(hf:f<l.length) :
  Calls Tryz.prog 38 #[.agg #[.slice a l.length c],.int .i64 f] w fun e w'=>e=.returned (.bool (sHead l f))/\Below w.heap.size w w':=by
 by_cases h:headBad (fnD l f) f
 ·exact l3head_bad a l c f S w hs hB hf h
 ·exact l3head_good a l c f S w hs hB hf h
end Go.Proofs.YtofcbekoaghikaaGreatDoor

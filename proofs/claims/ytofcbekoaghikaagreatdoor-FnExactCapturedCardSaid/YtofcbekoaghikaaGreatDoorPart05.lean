import Derived.Test.YtofcbekoaghikaaGreatDoorPart01
import Derived.Test.YtofcbekoaghikaaGreatDoorPart04
set_option linter.unusedSimpArgs false
set_option linter.unusedVariables false
set_option maxHeartbeats 1000000
namespace Go.Proofs.YtofcbekoaghikaaGreatDoor
def isStat (k:Int):Bool:=decide (1<=k)&&decide (k<=14)
def isExpr (k:Int):Bool:=decide (20<=k)&&decide (k<=38)
def isTarget (k:Int):Bool:=k==26||k==27||k==33
def isMany (k:Int):Bool:=k==34||k==37
def nd (ns:List NodeD)(p:Nat):NodeD:=ns[p]?.getD NodeD.z
def kidI (n:NodeD)(i:Nat):Int:=n.kids[i]?.getD 0
def fltZero (x:Nat):Bool:=FloatKind.f64.format.order x 0==some Ordering.eq
def fltNum (x:Nat):Bool:=FloatKind.f64.format.order x x==some Ordering.eq
def strNone (s:ByteArray):Bool:=s.toList.isEmpty
def sKid (ns:List NodeD)(p i:Nat):Int:=
 if(nd ns p).kids.length<=i then 0
 else if kidI (nd ns p) i<0\/(p:Int)<=kidI (nd ns p) i then 0
 else(nd ns (kidI (nd ns p) i).toNat).kind
def allFrom (q:Nat->Bool)(f t:Nat):Bool:=(List.range' f (t-f)).all q
theorem allFrom_true {q:Nat->Bool}{f t:Nat}(h:∀ i,f<=i->i<t->q i=true):allFrom q f t=true:=by
 unfold allFrom;rw[List.all_eq_true];intro x hx;rw[List.mem_range'_1]at hx;exact h x hx.1 (by omega)
theorem allFrom_false {q:Nat->Bool}{f t i:Nat}(h1:f<=i)(h2:i<t)(h:q i=false):allFrom q f t=false:=by
 unfold allFrom;rw[List.all_eq_false];exact⟨i,by rw[List.mem_range'_1];omega,by simp[h]⟩
theorem allFrom_get {q:Nat->Bool}{f t:Nat}(h:allFrom q f t=true)(i:Nat)(h1:f<=i)(h2:i<t):q i=true:=by
 unfold allFrom at h;rw[List.all_eq_true]at h;exact h i (by rw[List.mem_range'_1];omega)
def sKidI (ns:List NodeD)(p:Nat)(i:Int):Int:=sKid ns p i.toNat
def sExprs (ns:List NodeD)(p f t:Nat):Bool:=allFrom (fun i=>isExpr (sKid ns p i)) f t
def sExprsI (ns:List NodeD)(p:Nat)(f t:Int):Bool:=sExprs ns p f.toNat t.toNat
def sBareV (op num:Int)(flt:Nat)(str:ByteArray)(nr:Nat)(bo bn bf bs:Bool)(refs:Int):Bool:=
 (bo||op==0)&&(bn||num==0)&&(bf||fltZero flt)&&(bs||strNone str)&&((nr:Int)==refs)
def sBare (n:NodeD)(bo bn bf bs:Bool)(refs:Int):Bool:=sBareV n.op n.num n.flt n.str n.refs.length bo bn bf bs refs
def nkids (ns:List NodeD)(p:Nat):Nat:=(nd ns p).kids.length
def sBlock (ns:List NodeD)(p:Nat)(k:Int):Bool:=decide (0<k)&&sKidI ns p (k-1)==1
def allStats (ns:List NodeD)(p:Nat)(k:Int):Bool:=allFrom (fun i=>isStat (sKid ns p i)) 0 k.toNat
def allTargets (ns:List NodeD)(p:Nat)(k:Int):Bool:=allFrom (fun i=>isTarget (sKid ns p i)) 0 k.toNat
def stArm (ns:List NodeD)(p:Nat)(n:NodeD)(k r:Int):Int->Bool
 | 1=>allStats ns p k&&sBare n false false false false 0
 | 2=>decide (0<r)&&sBare n false false false false r&&sExprsI ns p 0 k
 | 3=>!(decide (n.num<1)||decide (k<=n.num))&&allTargets ns p n.num&&(sBare n false true false false 0&&sExprsI ns p n.num k)
 | 4=>(k==1)&&(sKidI ns p 0==34)&&sBare n false false false false 0
 | 5=>((k==2)||(k==3)&&((sKidI ns p 2==1)||(sKidI ns p 2==5)))&&sExprsI ns p 0 1&&(sKidI ns p 1==1)&&sBare n false false false false 0
 | 6=>(k==2)&&sExprsI ns p 0 1&&sBlock ns p k&&sBare n false false false false 0
 | 7=>(k==4)&&sExprsI ns p 0 3&&sBlock ns p k&&sBare n false false false false 1
 | 8=>(k==2)&&decide (1<=r)&&decide (r<=4)&&sExprsI ns p 0 1&&sBlock ns p k&&sBare n false false false false r
 | 9=>(k==0)&&sBare n false false false false 0
 | 10=>(k==0)&&sBare n false false false false 0
 | 11=>sExprsI ns p 0 k&&sBare n false false false false 0
 | 12=>(k==2)&&(sKidI ns p 0==1)&&sBlock ns p k&&sBare n false false false false 2
 | 13=>(k==1)&&sExprsI ns p 0 1&&sBare n false false false false 0
 | 14=>(k==1)&&(sKidI ns p 0==34)&&sBare n false false false false 0
 | _=>false
def sStatement (ns:List NodeD)(p:Nat):Bool:=stArm ns p (nd ns p) (nd ns p).kids.length (nd ns p).refs.length (nd ns p).kind
def exArm (ns:List NodeD)(p:Nat)(n:NodeD)(k:Int):Int->Bool
 | 20=>(k==0)&&sBare n false false false false 0
 | 21=>(k==0)&&sBare n false false false false 0
 | 22=>(k==0)&&sBare n false false false false 0
 | 37=>(k==0)&&sBare n false false false false 0
 | 23=>(k==0)&&sBare n false true false false 0
 | 24=>(k==0)&&fltNum n.flt&&sBare n false false true false 0
 | 25=>(k==0)&&decide ((n.str.size:Int)<=4000)&&sBare n false false false true 0
 | 26=>(k==0)&&sBare n false false false false 1
 | 27=>(k==0)&&sBare n false false false false 1
 | 36=>(k==0)&&sBare n false false false false 1
 | 28=>(k==0)&&decide (0<=n.num)&&decide (n.num<15)&&sBare n false true false false 0
 | 29=>(k==2)&&sExprsI ns p 0 k&&sBare n false false false false 0
 | 30=>(k==2)&&sExprsI ns p 0 k&&sBare n false false false false 0
 | 33=>(k==2)&&sExprsI ns p 0 k&&sBare n false false false false 0
 | 31=>(k==1)&&sExprsI ns p 0 k&&decide (19<=n.op)&&decide (n.op<=22)&&sBare n true false false false 0
 | 32=>(k==2)&&sExprsI ns p 0 k&&decide (1<=n.op)&&decide (n.op<=18)&&sBare n true false false false 0
 | 34=>decide (1<=k)&&sExprsI ns p 0 k&&sBare n false false false false 0
 | 35=>(k % 2==0)&&sExprsI ns p 0 k&&((n.op==0)||(n.op==1)&&decide (2<=k)&&(sKidI ns p (k-2)==23)&&isMany (sKidI ns p (k-1)))&&sBare n true false false false 0
 | 38=>(k==1)&&isMany (sKidI ns p 0)&&sBare n false false false false 0
 | _=>false
def sExpression (ns:List NodeD)(p:Nat):Bool:=exArm ns p (nd ns p) (nd ns p).kids.length (nd ns p).kind
def kidOk (p:Nat)(x:Int):Bool:=decide (0<=x)&&decide (x<p)
def kidsIn (ns:List NodeD)(p:Nat):Bool:=allFrom (fun i=>kidOk p (kidI (nd ns p) i)) 0 (nkids ns p)
def sShape (ns:List NodeD)(p:Nat):Bool:=
 decide (nkids ns p<=200)&&kidsIn ns p &&
  (if isStat (nd ns p).kind then decide (1<=(nd ns p).line)&&decide ((nd ns p).line<=100000)&&sStatement ns p else(nd ns p).line==0&&sExpression ns p)
def sName (s:ByteArray)(least:Int):Bool:=decide (least<=s.size)&&decide (s.size<=40)
def sHead (l:List FnD)(f:Nat):Bool:=
 let x:=l[f]?.getD FnD.z
 decide (x.nodes.length≠0)&&decide (x.vars.length<=200)&&decide (x.ups.length<=200)&&decide (0<=x.params)&&decide (x.params<=x.vars.length) &&
 decide (0<=x.line)&&decide (x.line<=100000)&&sName x.name 0 && !(f==0&&(decide (0<x.params)||decide (0<x.ups.length))) &&
 allFrom (fun i=>sName (x.vars[i]?.getD ByteArray.empty) 1) 0 x.vars.length
end Go.Proofs.YtofcbekoaghikaaGreatDoor
namespace Go.Proofs.YtofcbekoaghikaaGreatDoor
open Go.RowKit
theorem ret_bool {a b:Bool}(h:a=b):Ending.returned (.bool a)=.returned (.bool b):=by rw[h]
theorem l3stat_any (k:Int)(w:World):Calls Tryz.prog 60 #[.int .i64 k] w fun e w'=>e=.returned (.bool (isStat k))/\w'=w:=by
 by_cases h1:1<=k
 ·go_enter Tryz.func60,Tryz.ntmps60
  go_wp2
  go_ret;exact⟨by simp[isStat,h1],rfl⟩
 ·go_enter Tryz.func60,Tryz.ntmps60
  go_wp2
  go_ret;exact⟨by simp[isStat];omega,rfl⟩
theorem l3expr_any (k:Int)(w:World):Calls Tryz.prog 102 #[.int .i64 k] w fun e w'=>e=.returned (.bool (isExpr k))/\w'=w:=by
 by_cases h1:20<=k
 ·go_enter Tryz.func102,Tryz.ntmps102
  go_wp2
  go_ret;exact⟨by simp[isExpr,h1],rfl⟩
 ·go_enter Tryz.func102,Tryz.ntmps102
  go_wp2
  go_ret;exact⟨by simp[isExpr];omega,rfl⟩
theorem l3target_any (k:Int)(w:World):Calls Tryz.prog 80 #[.int .i64 k] w fun e w'=>e=.returned (.bool (isTarget k))/\w'=w:=by
 cases h1:k==26
 ·cases h2:k==27
  ·go_enter Tryz.func80,Tryz.ntmps80
   go_wp2
   go_ret;exact⟨by simp[isTarget,h1,h2],rfl⟩
  ·go_enter Tryz.func80,Tryz.ntmps80
   go_wp2
   go_ret;exact⟨by simp[isTarget,h1,h2],rfl⟩
 ·go_enter Tryz.func80,Tryz.ntmps80
  go_wp2
  go_ret;exact⟨by simp[isTarget,h1],rfl⟩
theorem l3many_any (k:Int)(w:World):Calls Tryz.prog 81 #[.int .i64 k] w fun e w'=>e=.returned (.bool (isMany k))/\w'=w:=by
 cases h1:k==34
 ·go_enter Tryz.func81,Tryz.ntmps81
  go_wp2
  go_ret;exact⟨by simp[isMany,h1],rfl⟩
 ·go_enter Tryz.func81,Tryz.ntmps81
  go_wp2
  go_ret;exact⟨by simp[isMany,h1],rfl⟩
theorem l3kid_any (a:Option Addr)(ns:List NodeD)(c p i:Nat)(S:Nat->Prop)(w:World)(hs:NodesAt w S a ns)(hp:p<ns.length)(hi:i<=1048576) :
  Calls Tryz.prog 77 #[.slice a ns.length c,.int .i64 p,.int .i64 i] w fun e w'=>e=.returned (.int .i64 (sKid ns p i))/\w'=w:=by
 have hn:=hs.1;obtain⟨b,off,rfl,hb,hcc⟩:=hs.2 (by omega);have N:=hcc p hp;obtain⟨ka,kc,hk,hkI⟩:=N.kids;have hkn:=hkI.1;have ed:Hid (sKid ns p i=sKid ns p i):=rfl;by_cases q1:(nd ns p).kids.length<=i
 ·have E:Hid (sKid ns p i=0):=by show _=_;simp[sKid,q1]
  have q1':(ns[p]?.getD NodeD.z).kids.length<=i:=q1;generalize ns[p]?.getD NodeD.z=n at *;go_enter Tryz.func77,Tryz.ntmps77
  go_wp2
  go_ret;exact⟨ret_int E.out.symm,rfl⟩
 ·have q1':¬(ns[p]?.getD NodeD.z).kids.length<=i:=q1;obtain⟨b2,off2,rfl,hb2,hc2⟩:=hkI.2 (by omega);have hki:=hc2 i (by omega);by_cases q2:kidI (nd ns p) i<0\/(p:Int)<=kidI (nd ns p) i
  ·have E:Hid (sKid ns p i=0):=by show _=_;simp only[sKid,if_neg q1,if_pos q2]
   have q2':(ns[p]?.getD NodeD.z).kids[i]?.getD 0<0\/(p:Int)<=(ns[p]?.getD NodeD.z).kids[i]?.getD 0:=q2;clear hc2 q2 q1 hcc;generalize (ns[p]?.getD NodeD.z).kids[i]?.getD 0=k at *;generalize ns[p]?.getD NodeD.z=n at *;by_cases q3:k<0
   ·clear q2';go_enter Tryz.func77,Tryz.ntmps77
    go_wp2
    go_ret;exact⟨ret_int E.out.symm,rfl⟩
   ·have q4:(p:Int)<=k:=by omega
    clear q2';go_enter Tryz.func77,Tryz.ntmps77
    go_wp2
    go_ret;exact⟨ret_int E.out.symm,rfl⟩
  ·have E:Hid (sKid ns p i=(nd ns (kidI (nd ns p) i).toNat).kind):=by show _=_;simp only[sKid,if_neg q1,if_neg q2]
   obtain⟨k,hk0⟩:∃ k:Nat,kidI (nd ns p) i=k:=⟨(kidI (nd ns p) i).toNat,by omega⟩;have hkp:k<p:=by omega
   have N2:=(hcc k (by omega)).kind;have hk0':(ns[p]?.getD NodeD.z).kids[i]?.getD 0=k:=hk0;rw[hk0']at hki;have E2:Hid (sKid ns p i=(ns[k]?.getD NodeD.z).kind):=by show _=_;rw[E.out,hk0];simp[nd]
   clear hc2 q2 q1 hcc hk0 hk0' E;generalize (ns[k]?.getD NodeD.z).kind=kk at *;generalize ns[p]?.getD NodeD.z=n at *;go_enter Tryz.func77,Tryz.ntmps77
   go_wp2
   go_ret;exact⟨ret_int E2.out.symm,rfl⟩
theorem l3exprs_any (a:Option Addr)(ns:List NodeD)(c p f t:Nat)(S:Nat->Prop)(w:World)(hs:NodesAt w S a ns)(hp:p<ns.length)(ht:t<=1048576) :
  Calls Tryz.prog 79 #[.slice a ns.length c,.int .i64 p,.int .i64 f,.int .i64 t] w fun e w'=>e=.returned (.bool (sExprs ns p f t))/\w'=w:=by
 go_enter Tryz.func79,Tryz.ntmps79;go_wp2_with fail
 go_loop [9] (fun i=>∃(k:Nat),f<=k/\i=.int .i64 k/\Hid (∀ j,f<=j->j<k->isExpr (sKid ns p j)=true)) (fun i=>t-(intOf i).toNat)
 case atStart=>exact⟨f,Nat.le_refl _,rfl,fun j h1 h2=>by omega⟩
 case round=>
  obtain⟨k,hk,rfl,hall⟩:=hrel;by_cases hlt:k<t
  ·cases hq:isExpr (sKid ns p k)
   ·have HQ:=hide hq;clear hq;go_wp2_with fail
    refine(l3kid_any _ _ _ _ _ S _ hs hp (by omega)).mono ?_;rintro e w' ⟨rfl,rfl⟩;go_wp2_with fail
    refine(l3expr_any _ _).mono ?_;rintro e w' ⟨rfl,rfl⟩;rw[unhide HQ];go_wp2_with fail
    go_ret;exact⟨ret_bool (allFrom_false hk hlt (unhide HQ)).symm,rfl⟩
   ·have HQ:=hide hq;clear hq;go_wp2_with fail
    refine(l3kid_any _ _ _ _ _ S _ hs hp (by omega)).mono ?_;rintro e w' ⟨rfl,rfl⟩;go_wp2_with fail
    refine(l3expr_any _ _).mono ?_;rintro e w' ⟨rfl,rfl⟩;rw[unhide HQ];go_wp2_with fail
    go_round
    case rel=>
     refine⟨k+1,by omega,by go_num,fun j h1 h2=>?_⟩;by_cases e:j=k
     ·subst e;exact unhide HQ
     ·exact hall.out j h1 (by omega)
    case measure=>simp[intOf];omega
  ·go_wp2_with fail
   go_ret;exact⟨ret_bool (allFrom_true (fun j h1 h2=>hall.out j h1 (by omega))).symm,rfl⟩
theorem l3exprs_from {a:Option Addr}{ns:List NodeD}{c p:Nat}{S:Nat->Prop}(w W:World)(hs:NodesAt w S a ns)(hB:∀ b,S b->b<w.heap.size)(hp:p<ns.length)(f t:Int)(hf:0<=f)(ht0:0<=t)(ht:t<=1048576)(hW:Below w.heap.size w W) :
  Calls Tryz.prog 79 #[.slice a ns.length c,.int .i64 p,.int .i64 f,.int .i64 t] W fun e w'=>e=.returned (.bool (sExprsI ns p f t))/\w'=W:=by
 obtain⟨f,rfl⟩:=Int.eq_ofNat_of_zero_le hf;obtain⟨t,rfl⟩:=Int.eq_ofNat_of_zero_le ht0;exact l3exprs_any a ns c p f t S W (hs.keep hW hB) hp (by omega)
theorem l3kid_from {a:Option Addr}{ns:List NodeD}{c p:Nat}{S:Nat->Prop}(w W:World)(hs:NodesAt w S a ns)(hB:∀ b,S b->b<w.heap.size)(hp:p<ns.length)(i:Int)(hi0:0<=i)(hi:i<=1048576)(hW:Below w.heap.size w W) :
  Calls Tryz.prog 77 #[.slice a ns.length c,.int .i64 p,.int .i64 i] W fun e w'=>e=.returned (.int .i64 (sKidI ns p i))/\w'=W:=by
 obtain⟨i,rfl⟩:=Int.eq_ofNat_of_zero_le hi0;exact l3kid_any a ns c p i S W (hs.keep hW hB) hp (by omega)
theorem l3bare_any (kind line op num:Int)(flt:Nat)(str:ByteArray)(n1 n2:Nat)(a1 a2:Option Addr)(c1 c2:Nat)(bo bn bf bs:Bool)(r:Int)(w:World) :
    Calls Tryz.prog 78 #[.agg #[.int .i64 kind,.int .i64 line,.int .i64 op,.int .i64 num,.float .f64 flt,.string str,.slice a1 n1 c1,.slice a2 n2 c2],.bool bo,.bool bn,.bool bf,.bool bs,.int .i64 r] w fun e w'=>
      e=.returned (.bool (sBareV op num flt str n1 bo bn bf bs r))/\Below w.heap.size w w':=by
  have hbA:∀ o,Below w.heap.size w (w.alloc o):=fun o=>(Below.refl _ _).alloc (Nat.le_refl _) o;simp only[sBareV,fltZero,strNone];cases bo<;>cases bn<;>cases bf<;>cases bs<;>
  (go_enter Tryz.func78,Tryz.ntmps78
   go_wp2_with fail
   all_goals (go_ret;refine⟨?_,hbA _⟩;simp[*]))
end Go.Proofs.YtofcbekoaghikaaGreatDoor

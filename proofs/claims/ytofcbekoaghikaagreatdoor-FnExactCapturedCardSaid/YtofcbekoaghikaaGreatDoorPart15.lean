import Derived.Test.YtofcbekoaghikaaGreatDoorPart14
import Derived.Deep.RegionHeld3
set_option linter.unusedSimpArgs false
set_option linter.unusedVariables false
set_option maxHeartbeats 1000000
namespace Go.Proofs.YtofcbekoaghikaaGreatDoor
open Go.RowKit
def ImplSaid (G:World->Prop):Prop:=
 ∀(a:Option Addr) (l:List FnD) (c:Nat) (S:Nat->Prop) (w:World),G w->FnsAt w S a l->(∀ b,S b->b<w.heap.size)->tFns l<=1048576 ->
  Calls Tryz.prog 27 #[.agg #[.slice a l.length c]] w fun e w'=>∃ x f n,e=.returned (.agg #[.int .i64 x,.int .i64 f,.int .i64 n])/\UnitFault l x f n/\Below w.heap.size w w'
theorem toUnit_from {a:Option Addr}{l:List FnD}{c:Nat}{S:Nat->Prop}(w W:World)(hs:FnsAt w S a l)(hB:∀ b,S b->b<w.heap.size)(hl:tFns l<=1048576)(hW:Below w.heap.size w W) :
  Calls Tryz.prog 6 #[.agg #[.slice a l.length c]] W fun e w'=>∃ a' c',e=.returned (.agg #[.slice a' l.length c'])/\FnsAt w' (New W.heap.size w') a' l/\Below W.heap.size W w':=
 toUnit_any a l c S W (hs.keep hW hB) (fun b h=>Nat.lt_of_lt_of_le (hB b h) hW.size) hl
theorem eqUnit_from {a b:Option Addr}{l:List FnD}{ca cb:Nat}{S:Nat->Prop}(W:World)(h1:FnsAt W S a l)(h2:FnsAt W S b l)(hB:∀ b,S b->b<W.heap.size) :
  Calls Tryz.prog 9 #[.agg #[.slice a l.length ca],.agg #[.slice b l.length cb]] W fun e w'=>e=.returned (.bool true)/\Below W.heap.size W w':=eqUnit_same a b l ca cb S W h1 h2 hB
def inR (x lo hi:Int):Bool:=decide (lo<=x)&&decide (x<=hi)
theorem within_any (x lo hi:Int)(w:World):Calls Tryz.prog 26 #[.int .i64 x,.int .i64 lo,.int .i64 hi] w fun e w'=>e=.returned (.bool (inR x lo hi))/\w'=w:=by
 by_cases h1:lo<=x
 ·go_enter Tryz.func26,Tryz.ntmps26
  go_wp2
  go_ret;exact⟨by simp[inR,h1],rfl⟩
 ·go_enter Tryz.func26,Tryz.ntmps26
  go_wp2
  go_ret;exact⟨by simp[inR];omega,rfl⟩
theorem within64_any (x lo hi:Int)(w:World):Calls Tryz.prog 103 #[.int .i64 x,.int .i64 lo,.int .i64 hi] w fun e w'=>e=.returned (.bool (inR x lo hi))/\w'=w:=by
 by_cases h1:lo<=x
 ·go_enter Tryz.func103,Tryz.ntmps103
  go_wp2
  go_ret;exact⟨by simp[inR,h1],rfl⟩
 ·go_enter Tryz.func103,Tryz.ntmps103
  go_wp2
  go_ret;exact⟨by simp[inR];omega,rfl⟩
theorem isStatement_any (k:Int)(w:World):Calls Tryz.prog 85 #[.int .i64 k] w fun e w'=>e=.returned (.bool (isStat k))/\w'=w:=by
 go_enter Tryz.func85,Tryz.ntmps85;go_wp2_with fail
 refine(within_any _ _ _ _).mono ?_;rintro e w' ⟨rfl,rfl⟩;go_wp2_with fail
 go_ret;exact⟨rfl,rfl⟩
theorem isExpression_any (k:Int)(w:World):Calls Tryz.prog 106 #[.int .i64 k] w fun e w'=>e=.returned (.bool (isExpr k))/\w'=w:=by
 go_enter Tryz.func106,Tryz.ntmps106;go_wp2_with fail
 refine(within_any _ _ _ _).mono ?_;rintro e w' ⟨rfl,rfl⟩;go_wp2_with fail
 go_ret;exact⟨rfl,rfl⟩
theorem isMany_any (k:Int)(w:World):Calls Tryz.prog 105 #[.int .i64 k] w fun e w'=>e=.returned (.bool (isMany k))/\w'=w:=by
 cases h1:k==34
 ·go_enter Tryz.func105,Tryz.ntmps105
  go_wp2
  go_ret;exact⟨by simp[isMany,h1],rfl⟩
 ·go_enter Tryz.func105,Tryz.ntmps105
  go_wp2
  go_ret;exact⟨by simp[isMany,h1],rfl⟩
theorem cmpIsNaN_any (k:Int)(w:World):Calls Tryz.prog 113 #[.int .i64 k] w fun e w'=>e=.returned (.bool false)/\w'=w:=by
 go_enter Tryz.func113,Tryz.ntmps113
 go_wp2
 go_ret;exact⟨by simp,rfl⟩
def cmp3 (x y:Int):Int:=if x<y then -1 else if y<x then 1 else 0
theorem cmpCompare_any (x y:Int)(w:World):Calls Tryz.prog 112 #[.int .i64 x,.int .i64 y] w fun e w'=>e=.returned (.int .i64 (cmp3 x y))/\w'=w:=by
 by_cases h1:x<y
 ·go_enter Tryz.func112,Tryz.ntmps112;go_wp2_with fail
  refine(cmpIsNaN_any _ _).mono ?_;rintro e w' ⟨rfl,rfl⟩;go_wp2_with fail
  refine(cmpIsNaN_any _ _).mono ?_;rintro e w' ⟨rfl,rfl⟩;go_wp2_with fail
  go_ret;exact⟨ret_int (by unfold cmp3;split<;>(try split)<;>omega),rfl⟩
 ·by_cases h2:y<x
  ·go_enter Tryz.func112,Tryz.ntmps112;go_wp2_with fail
   refine(cmpIsNaN_any _ _).mono ?_;rintro e w' ⟨rfl,rfl⟩;go_wp2_with fail
   refine(cmpIsNaN_any _ _).mono ?_;rintro e w' ⟨rfl,rfl⟩;go_wp2_with fail
   go_ret;exact⟨ret_int (by unfold cmp3;split<;>(try split)<;>omega),rfl⟩
  ·go_enter Tryz.func112,Tryz.ntmps112;go_wp2_with fail
   refine(cmpIsNaN_any _ _).mono ?_;rintro e w' ⟨rfl,rfl⟩;go_wp2_with fail
   refine(cmpIsNaN_any _ _).mono ?_;rintro e w' ⟨rfl,rfl⟩;go_wp2_with fail
   go_ret;exact⟨ret_int (by unfold cmp3;split<;>(try split)<;>omega),rfl⟩
def nth3 (x y z:Int)(k:Nat):Int:=if k=0 then x else if k=1 then y else z
def or3 (x y z:Int):Int:=if x≠0 then x else if y≠0 then y else z
theorem cmpOr_any (x y z:Int)(b:Nat)(w:World)(h0:w.cell? ⟨b,0,none⟩=some (.int .i64 x))(h1:w.cell? ⟨b,1,none⟩=some (.int .i64 y))(h2:w.cell? ⟨b,2,none⟩=some (.int .i64 z)) :
  Calls Tryz.prog 111 #[.slice (some ⟨b,0,none⟩) 3 3] w fun e w'=>e=.returned (.int .i64 (or3 x y z))/\w'=w:=by
 have hc:∀ k,k<3->w.cell? ⟨b,k,none⟩=some (.int .i64 (nth3 x y z k)):=fun k hk=>by
  have:k=0\/k=1\/k=2:=by omega
  rcases this with rfl | rfl | rfl
  ·exact h0
  ·exact h1
  ·exact h2
 have HC:=hide hc;clear h0 h1 h2 hc;go_enter Tryz.func111,Tryz.ntmps111;go_wp2_with fail
 go_loop [8] (fun i=>∃(k:Nat),i=.int .i64 k/\Hid (∀ j,j<k->nth3 x y z j=0)) (fun i=>3-(intOf i).toNat)
 case atStart=>exact⟨0,rfl,fun j h2=>by omega⟩
 case round=>
  obtain⟨k,rfl,hall⟩:=hrel;by_cases hlt:k<3
  ·have hk:=unhide HC k hlt;by_cases hq:nth3 x y z k=0
   ·have HQ:=hide hq;rw[hq]at hk;clear hq;go_wp2_with fail
    go_round
    case rel=>
     refine⟨k+1,by go_num,fun j h2=>?_⟩;by_cases e:j=k
     ·subst e;exact unhide HQ
     ·exact hall.out j (by omega)
    case measure=>simp[intOf];omega
   ·have E:Hid (or3 x y z=nth3 x y z k):=by
     have h3:=hall.out;have:k=0\/k=1\/k=2:=by omega
     rcases this with rfl | rfl | rfl
     ·show _=_;simp[nth3]at hq;simp[nth3,or3,hq]
     ·have:=h3 0 (by omega);simp[nth3]at this hq;show _=_;simp[nth3,or3,this,hq]
     ·have a1:=h3 0 (by omega);have a2:=h3 1 (by omega);simp[nth3]at a1 a2 hq;show _=_;simp[nth3,or3,a1,a2]
    have hq':(nth3 x y z k != 0)=true:=by simpa using hq
    generalize nth3 x y z k=v at *;go_wp2_with fail
    go_ret;exact⟨ret_int E.out.symm,rfl⟩
  ·go_wp2_with fail
   go_ret;have h3:=hall.out;have a1:=h3 0 (by omega);have a2:=h3 1 (by omega);have a3:=h3 2 (by omega);simp[nth3]at a1 a2 a3;exact⟨ret_int (by simp[or3,a1,a2,a3]),rfl⟩
end Go.Proofs.YtofcbekoaghikaaGreatDoor

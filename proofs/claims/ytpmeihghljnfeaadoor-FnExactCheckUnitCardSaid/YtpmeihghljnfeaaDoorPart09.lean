import Derived.Test.YtpmeihghljnfeaaDoorPart08
import Derived.Deep.RegionHeld3
import Derived.Maps.OwnOps
set_option linter.unusedSimpArgs false
set_option linter.unusedVariables false
set_option maxHeartbeats 4000000
namespace Go.Proofs.YtpmeihghljnfeaaDoor
open Go.RowKit
def ImplSaid (G:World->Prop):Prop:=
 ∀(a:Option Addr) (l:List FnD) (c:Nat) (S:Nat->Prop) (w:World),G w->FnsAt w S a l->(∀ b,S b->b<w.heap.size)->tFns l<=1048576 ->
  Calls Tryd.prog 7 #[.agg #[.slice a l.length c]] w fun e w'=>∃ x f n,e=.returned (.agg #[.int .i64 x,.int .i64 f,.int .i64 n])/\UnitFault l x f n/\Below w.heap.size w w'
theorem toUnit_from {a:Option Addr}{l:List FnD}{c:Nat}{S:Nat->Prop}(w W:World)(hs:FnsAt w S a l)(hB:∀ b,S b->b<w.heap.size)(hl:tFns l<=1048576)(hW:Below w.heap.size w W) :
  Calls Tryd.prog 6 #[.agg #[.slice a l.length c]] W fun e w'=>∃ a' c',e=.returned (.agg #[.slice a' l.length c'])/\FnsAt w' (New W.heap.size w') a' l/\Below W.heap.size W w':=
 toUnit_any a l c S W (hs.keep hW hB) (fun b h=>Nat.lt_of_lt_of_le (hB b h) hW.size) hl
theorem eqUnit_from {a b:Option Addr}{l:List FnD}{ca cb:Nat}{S:Nat->Prop}(W:World)(h1:FnsAt W S a l)(h2:FnsAt W S b l)(hB:∀ b,S b->b<W.heap.size) :
  Calls Tryd.prog 9 #[.agg #[.slice a l.length ca],.agg #[.slice b l.length cb]] W fun e w'=>e=.returned (.bool true)/\Below W.heap.size W w':=eqUnit_same a b l ca cb S W h1 h2 hB
theorem eqFault_same (c f n:Int)(w:World):Calls Tryd.prog 8 #[.agg #[.int .i64 c,.int .i64 f,.int .i64 n],.agg #[.int .i64 c,.int .i64 f,.int .i64 n]] w fun e w'=>e=.returned (.bool true)/\Below w.heap.size w w':=by
 have h1:(c != c)=false:=by simp
 have h2:(f != f)=false:=by simp
 have h3:(n != n)=false:=by simp
 go_enter Tryd.func8,Tryd.ntmps8;go_wp2_with fail
 go_ret;exact⟨rfl,by repeat (first | refine Below.alloc ?_ (by simp<;>omega) _ | exact Below.refl _ _)⟩
theorem law_any (G:World->Prop)(hG:∀ w w',Below w.heap.size w w'->G w->G w')(himp:ImplSaid G)(a:Option Addr)(l:List FnD)(c:Nat)(S:Nat->Prop)(w:World)(g0:G w)(hs:FnsAt w S a l)(hB:∀ b,S b->b<w.heap.size) :
  Calls Tryd.prog 3 #[.agg #[.slice a l.length c]] w fun e w'=>e=.returned (.bool true)/\Below w.heap.size w w':=by
 have hbA:∀ o,Below w.heap.size w (w.alloc o):=fun o=>(Below.refl _ _).alloc (Nat.le_refl _) o;have HS:=hide hs;have HB:=hide hB;have HG:=hide hG;have G0:=hide g0;have HI:=hide himp;have FN:Hid (∀ W:World,Below w.heap.size w W->FnsAt W S a l/\∀ b,S b->b<W.heap.size):=fun W hW=>⟨hs.keep hW hB,fun b h=>Nat.lt_of_lt_of_le (hB b h) hW.size⟩;have HBA:=hide hbA;clear hs hB hG g0 himp hbA;by_cases q:(1048576:Int)<tFns l
 ·have B1:Hid (bud 1048576 (tFns l)=-1):=bud_no q;go_enter Tryd.func3,Tryd.ntmps3;go_wp2_with fail
  refine(szUnit_any a l c S _ (unhide FN _ (unhide HBA _)).1 (unhide FN _ (unhide HBA _)).2).mono ?_;rintro e w1 ⟨rfl,hb1⟩;rw[B1.out];go_wp2_with fail
  go_ret;exact⟨rfl,(unhide HBA _).trans (hb1.mono (unhide HBA _).size)⟩
 have hl:tFns l<=1048576:=by omega
 have B1:Hid (bud 1048576 (tFns l)=1048576-tFns l):=bud_yes (by omega);have hle:(tFns l:Int)<=1048576:=by omega
 go_enter Tryd.func3,Tryd.ntmps3;go_wp2_with fail
 refine(szUnit_any a l c S _ (unhide FN _ (unhide HBA _)).1 (unhide FN _ (unhide HBA _)).2).mono ?_;rintro e w1 ⟨rfl,hb1⟩;rw[B1.out];have hw1:Below w.heap.size w w1:=(unhide HBA _).trans (hb1.mono (unhide HBA _).size);have v1:w1.cell? ⟨w.heap.size,0,none⟩=some (.slice a l.length c):=by rw[hb1.cell (p:=⟨w.heap.size,0,none⟩) (by simp)];simp[go_sem]
 have s1:w.heap.size+1<=w1.heap.size:=by have:=hb1.size;simpa using this
 have s1':w.heap.size<w1.heap.size:=by omega
 clear hb1;go_wp2_with fail
 refine(toUnit_from w1 _ (unhide FN _ hw1).1 (unhide FN _ hw1).2 hl (Below.refl _ _)).mono ?_;rintro e w2 ⟨a2,c2,rfl,hF2,hb2⟩;have hw2:Below w.heap.size w w2:=hw1.trans (hb2.mono hw1.size);have v2:w2.cell? ⟨w.heap.size,0,none⟩=some (.slice a l.length c):=(hb2.cell (p:=⟨w.heap.size,0,none⟩) s1').trans v1;have s2:=hb2.size;clear hb2 v1;go_wp2_with fail
 refine(spec_CheckUnit_any a2 l c2 _ w2 hF2 (fun b h=>h.2) hl).mono ?_;rintro e w3 ⟨x,f,n,rfl,hU3,hb3⟩;have hw3:Below w.heap.size w w3:=hw2.trans (hb3.mono hw2.size);have v3:w3.cell? ⟨w.heap.size,0,none⟩=some (.slice a l.length c):=(hb3.cell (p:=⟨w.heap.size,0,none⟩) (by show w.heap.size<w2.heap.size;omega)).trans v2;have s3:=hb3.size;have HU3:=hide hU3;clear hb3 v2 hF2 hU3;have s3':w.heap.size<w3.heap.size:=by omega
 go_wp2_with fail
 refine(toUnit_from w _ (unhide HS) (unhide HB) hl (hw3.alloc hw3.size _)).mono ?_;rintro e w4 ⟨a4,c4,rfl,hF4,hb4⟩;have hw4:Below w.heap.size w w4:=(hw3.alloc hw3.size _).trans (hb4.mono (hw3.alloc hw3.size _).size);have s4:w3.heap.size+1<=w4.heap.size:=by have:=hb4.size;simpa using this
 have v4:w4.cell? ⟨w.heap.size,0,none⟩=some (.slice a l.length c):=by
  rw[hb4.cell (p:=⟨w.heap.size,0,none⟩) (by simp;omega),Below.cell (B:=w3.heap.size) ((Below.refl _ _).alloc (Nat.le_refl _) _) (p:=⟨w.heap.size,0,none⟩) (by show w.heap.size<w3.heap.size;omega)];exact v3
 have r4:∀ j,j<3->w4.cell? ⟨w3.heap.size,j,none⟩=some (sel8 (.int .i64 x) (.int .i64 f) (.int .i64 n) (.int .i64 n) (.int .i64 n) (.int .i64 n) (.int .i64 n) (.int .i64 n) j):=fun j hj=>by
  rw[hb4.cell (p:=⟨w3.heap.size,j,none⟩) (by simp)];have:j=0\/j=1\/j=2:=by omega
  rcases this with rfl | rfl | rfl<;>simp[go_sem,sel8]
 have HF4:=hide hF4;have HR4:=hide r4;clear hb4 v3 hF4 r4;have s4':w.heap.size<w4.heap.size:=by omega
 have s4'':w3.heap.size<w4.heap.size:=by omega
 go_wp2_with fail
 refine(unhide HI a4 l c4 _ _ (unhide HG _ _ (hw4.alloc hw4.size _) (unhide G0)) ((unhide HF4).keep (B:=w4.heap.size) ((Below.refl _ _).alloc (Nat.le_refl _) _) (fun b h=>h.2)) (fun b h=>by have:=h.2;simp;omega) hl).mono ?_;rintro e w5 ⟨x',f',n',rfl,hU5,hb5⟩;obtain⟨rfl,rfl,rfl⟩:=unitFault_unique (unhide HU3) hU5;have hA4:Below w4.heap.size w4 w5:=((Below.refl _ _).alloc (Nat.le_refl _) _).trans (hb5.mono (by simp));have hw5:Below w.heap.size w w5:=hw4.trans (hA4.mono hw4.size);have s5:w4.heap.size+1<=w5.heap.size:=by have:=hb5.size;simpa using this
 have v5:w5.cell? ⟨w.heap.size,0,none⟩=some (.slice a l.length c):=(hA4.cell (p:=⟨w.heap.size,0,none⟩) s4').trans v4;have r5:∀ j,j<3->w5.cell? ⟨w3.heap.size,j,none⟩=_:=fun j hj=>(hA4.cell (p:=⟨w3.heap.size,j,none⟩) s4'').trans (unhide HR4 j hj);have r50:w5.cell? ⟨w3.heap.size,0,none⟩=some (.int .i64 x):=r5 0 (by omega);have r51:w5.cell? ⟨w3.heap.size,1,none⟩=some (.int .i64 f):=r5 1 (by omega);have r52:w5.cell? ⟨w3.heap.size,2,none⟩=some (.int .i64 n):=r5 2 (by omega);have x5:w5.cell? ⟨w4.heap.size,0,none⟩=some (.slice a4 l.length c4):=by rw[hb5.cell (p:=⟨w4.heap.size,0,none⟩) (by simp)];simp[go_sem]
 have HF5:=hide ((unhide HF4).keep hA4 (fun b h=>h.2));clear hb5 hU5 HU3 v4 r5 HR4;have s5':w.heap.size<w5.heap.size:=by omega
 have s5'':w3.heap.size<w5.heap.size:=by omega
 have s5''':w4.heap.size<w5.heap.size:=by omega
 go_wp2_with fail
 refine(eqFault_same _ _ _ _).mono ?_;rintro e w6 ⟨rfl,hb6⟩;have hA5:Below w5.heap.size w5 w6:=((Below.refl _ _).alloc (Nat.le_refl _) _).trans (hb6.mono (by simp));have hw6:Below w.heap.size w w6:=hw5.trans (hA5.mono hw5.size);have v6:w6.cell? ⟨w.heap.size,0,none⟩=some (.slice a l.length c):=(hA5.cell (p:=⟨w.heap.size,0,none⟩) s5').trans v5;have x6:w6.cell? ⟨w4.heap.size,0,none⟩=some (.slice a4 l.length c4):=(hA5.cell (p:=⟨w4.heap.size,0,none⟩) s5''').trans x5;have s6:=hA5.size;have HF6:Hid (FnsAt w6 (fun b=>b<w6.heap.size) a4 l):=((unhide HF5).keep hA5 (fun b h=>by have:=h.2;omega)).mono (fun b h=>by have:=h.2;omega);clear hb6 v5 x5 r50 r51 r52;have s6':w.heap.size<w6.heap.size:=by omega
 have s6'':w4.heap.size<w6.heap.size:=by omega
 have TU:Hid (Calls Tryd.prog 6 #[.agg #[.slice a l.length c]] w6.drew fun e w'=>∃ a' c',e=.returned (.agg #[.slice a' l.length c'])/\FnsAt w' (New w6.heap.size w') a' l/\Below w6.heap.size w6.drew w'):=toUnit_from w w6.drew (unhide HS) (unhide HB) hl hw6.drew;have EU:Hid (∀(w7:World) (a7:Option Addr) (c7:Nat),FnsAt w7 (New w6.heap.size w7) a7 l->Below w6.heap.size w6.drew w7->Calls Tryd.prog 9 #[.agg #[.slice a4 l.length c4],.agg #[.slice a7 l.length c7]] w7 fun e w'=>e=.returned (.bool true)/\Below w7.heap.size w7 w'):=fun w7 a7 c7 h7 hb7=>
  eqUnit_from (S:=fun b=>b<w7.heap.size) w7 (((unhide HF6).keep (B:=w6.heap.size) (w':=w7) ⟨hb7.os,hb7.tape,hb7.output,hb7.size,hb7.block⟩ (fun b h=>h)).mono (fun b h=>Nat.lt_of_lt_of_le h hb7.size)) (h7.mono (fun b h=>h.2)) (fun b h=>h)
 have CL:Hid (∀ w7,Below w6.heap.size w6.drew w7->w7.cell? ⟨w.heap.size,0,none⟩=some (.slice a l.length c)/\w7.cell? ⟨w4.heap.size,0,none⟩=some (.slice a4 l.length c4)):=fun w7 h7=>
  ⟨(h7.cell (p:=⟨w.heap.size,0,none⟩) s6').trans v6,(h7.cell (p:=⟨w4.heap.size,0,none⟩) s6'').trans x6⟩
 go_wp2_with fail
 go_region_held3 (fun w'=>w'.cell? ⟨w.heap.size,0,none⟩=some (.slice a l.length c)/\w'.cell? ⟨w4.heap.size,0,none⟩=some (.slice a4 l.length c4)) (simp[go_sem, *])
  (first
   | (go_at_call 6;refine(unhide TU).mono ?_;rintro e w7 ⟨a7,c7,rfl,hF7,hb7⟩;obtain⟨v7,x7⟩:=unhide CL w7 hb7)
   | (go_at_call 9;refine(unhide EU _ _ _ hF7 hb7).mono ?_;rintro e w8 ⟨rfl,hb8⟩;have v8:=(hb8.cell (p:=⟨w.heap.size,0,none⟩) (by have:=hb7.size;simp at this ⊢;omega)).trans v7;have x8:=(hb8.cell (p:=⟨w4.heap.size,0,none⟩) (by have:=hb7.size;simp at this ⊢;omega)).trans x7))
 all_goals (go_wp2_with fail)
 all_goals go_ret
 all_goals exact⟨rfl,(hw6.drew.trans (hb7.mono hw6.size)).trans (hb8.mono (Nat.le_trans hw6.size hb7.size))⟩
def inR (x lo hi:Int):Bool:=decide (lo<=x)&&decide (x<=hi)
theorem within_any (x lo hi:Int)(w:World):Calls Tryd.prog 31 #[.int .i64 x,.int .i64 lo,.int .i64 hi] w fun e w'=>e=.returned (.bool (inR x lo hi))/\w'=w:=by
 by_cases h1:lo<=x
 ·go_enter Tryd.func31,Tryd.ntmps31
  go_wp2
  go_ret;exact⟨by simp[inR,h1],rfl⟩
 ·go_enter Tryd.func31,Tryd.ntmps31
  go_wp2
  go_ret;exact⟨by simp[inR];omega,rfl⟩
theorem within64_any (x lo hi:Int)(w:World):Calls Tryd.prog 80 #[.int .i64 x,.int .i64 lo,.int .i64 hi] w fun e w'=>e=.returned (.bool (inR x lo hi))/\w'=w:=by
 by_cases h1:lo<=x
 ·go_enter Tryd.func80,Tryd.ntmps80
  go_wp2
  go_ret;exact⟨by simp[inR,h1],rfl⟩
 ·go_enter Tryd.func80,Tryd.ntmps80
  go_wp2
  go_ret;exact⟨by simp[inR];omega,rfl⟩
theorem isStatement_any (k:Int)(w:World):Calls Tryd.prog 52 #[.int .i64 k] w fun e w'=>e=.returned (.bool (isStat k))/\w'=w:=by
 go_enter Tryd.func52,Tryd.ntmps52;go_wp2_with fail
 refine(within_any _ _ _ _).mono ?_;rintro e w' ⟨rfl,rfl⟩;go_wp2_with fail
 go_ret;exact⟨rfl,rfl⟩
theorem isExpression_any (k:Int)(w:World):Calls Tryd.prog 83 #[.int .i64 k] w fun e w'=>e=.returned (.bool (isExpr k))/\w'=w:=by
 go_enter Tryd.func83,Tryd.ntmps83;go_wp2_with fail
 refine(within_any _ _ _ _).mono ?_;rintro e w' ⟨rfl,rfl⟩;go_wp2_with fail
 go_ret;exact⟨rfl,rfl⟩
theorem isMany_any (k:Int)(w:World):Calls Tryd.prog 82 #[.int .i64 k] w fun e w'=>e=.returned (.bool (isMany k))/\w'=w:=by
 cases h1:k==34
 ·go_enter Tryd.func82,Tryd.ntmps82
  go_wp2
  go_ret;exact⟨by simp[isMany,h1],rfl⟩
 ·go_enter Tryd.func82,Tryd.ntmps82
  go_wp2
  go_ret;exact⟨by simp[isMany,h1],rfl⟩
theorem cmpIsNaN_any (k:Int)(w:World):Calls Tryd.prog 95 #[.int .i64 k] w fun e w'=>e=.returned (.bool false)/\w'=w:=by
 go_enter Tryd.func95,Tryd.ntmps95
 go_wp2
 go_ret;exact⟨by simp,rfl⟩
def cmp3 (x y:Int):Int:=if x<y then -1 else if y<x then 1 else 0
theorem cmpCompare_any (x y:Int)(w:World):Calls Tryd.prog 89 #[.int .i64 x,.int .i64 y] w fun e w'=>e=.returned (.int .i64 (cmp3 x y))/\w'=w:=by
 by_cases h1:x<y
 ·go_enter Tryd.func89,Tryd.ntmps89;go_wp2_with fail
  refine(cmpIsNaN_any _ _).mono ?_;rintro e w' ⟨rfl,rfl⟩;go_wp2_with fail
  refine(cmpIsNaN_any _ _).mono ?_;rintro e w' ⟨rfl,rfl⟩;go_wp2_with fail
  go_ret;exact⟨ret_int (by unfold cmp3;split<;>(try split)<;>omega),rfl⟩
 ·by_cases h2:y<x
  ·go_enter Tryd.func89,Tryd.ntmps89;go_wp2_with fail
   refine(cmpIsNaN_any _ _).mono ?_;rintro e w' ⟨rfl,rfl⟩;go_wp2_with fail
   refine(cmpIsNaN_any _ _).mono ?_;rintro e w' ⟨rfl,rfl⟩;go_wp2_with fail
   go_ret;exact⟨ret_int (by unfold cmp3;split<;>(try split)<;>omega),rfl⟩
  ·go_enter Tryd.func89,Tryd.ntmps89;go_wp2_with fail
   refine(cmpIsNaN_any _ _).mono ?_;rintro e w' ⟨rfl,rfl⟩;go_wp2_with fail
   refine(cmpIsNaN_any _ _).mono ?_;rintro e w' ⟨rfl,rfl⟩;go_wp2_with fail
   go_ret;exact⟨ret_int (by unfold cmp3;split<;>(try split)<;>omega),rfl⟩
def nth3 (x y z:Int)(k:Nat):Int:=if k=0 then x else if k=1 then y else z
def or3 (x y z:Int):Int:=if x≠0 then x else if y≠0 then y else z
theorem cmpOr_any (x y z:Int)(b:Nat)(w:World)(h0:w.cell? ⟨b,0,none⟩=some (.int .i64 x))(h1:w.cell? ⟨b,1,none⟩=some (.int .i64 y))(h2:w.cell? ⟨b,2,none⟩=some (.int .i64 z)) :
  Calls Tryd.prog 88 #[.slice (some ⟨b,0,none⟩) 3 3] w fun e w'=>e=.returned (.int .i64 (or3 x y z))/\w'=w:=by
 have hc:∀ k,k<3->w.cell? ⟨b,k,none⟩=some (.int .i64 (nth3 x y z k)):=fun k hk=>by
  have:k=0\/k=1\/k=2:=by omega
  rcases this with rfl | rfl | rfl
  ·exact h0
  ·exact h1
  ·exact h2
 have HC:=hide hc;clear h0 h1 h2 hc;go_enter Tryd.func88,Tryd.ntmps88;go_wp2_with fail
 go_loop [8] (fun i=>∃(k:Nat),i=.int .i64 k/\Hid (∀ j,j<k->nth3 x y z j=0)) (fun i=>3-(intOf i).toNat)
 case atStart=>exact⟨0,rfl,fun j h2=>by omega⟩
 case round=>
  obtain⟨k,rfl,hall⟩:=hrel;by_cases hlt:k<3
  ·have hk:=unhide HC k hlt;by_cases hq:nth3 x y z k=0
   ·have HQ:=hide hq;rw[hq]at hk;clear hq;go_wp2_with fail
    go_round
    case rel=>
     refine⟨k+1,by go_num,fun j h2=>?_⟩;by_cases e:j=k
     ·subst e;exact unhide HQ
     ·exact hall.out j (by omega)
    case measure=>simp[intOf];omega
   ·have E:Hid (or3 x y z=nth3 x y z k):=by
     have h3:=hall.out;have:k=0\/k=1\/k=2:=by omega
     rcases this with rfl | rfl | rfl
     ·show _=_;simp[nth3]at hq;simp[nth3,or3,hq]
     ·have:=h3 0 (by omega);simp[nth3]at this hq;show _=_;simp[nth3,or3,this,hq]
     ·have a1:=h3 0 (by omega);have a2:=h3 1 (by omega);simp[nth3]at a1 a2 hq;show _=_;simp[nth3,or3,a1,a2]
    have hq':(nth3 x y z k != 0)=true:=by simpa using hq
    generalize nth3 x y z k=v at *;go_wp2_with fail
    go_ret;exact⟨ret_int E.out.symm,rfl⟩
  ·go_wp2_with fail
   go_ret;have h3:=hall.out;have a1:=h3 0 (by omega);have a2:=h3 1 (by omega);have a3:=h3 2 (by omega);simp[nth3]at a1 a2 a3;exact⟨ret_int (by simp[or3,a1,a2,a3]),rfl⟩
end Go.Proofs.YtpmeihghljnfeaaDoor
namespace Go.Proofs.YtpmeihghljnfeaaDoor
open Go.RowKit Go.MapKept
def MapI (w:World)(b:Nat)(m:Int->Option Value):Prop:=
 ∃ es clock,w.heap[b]? = some (.map es clock)/\∀ k:Int,match m k with
  | some v=>∃ i,Instr.findNow (.int .i64) (.int .i64 k) es.toList 0=some (some (i,v))
  | none=>Instr.findNow (.int .i64) (.int .i64 k) es.toList 0=some none
theorem MapI.made (w:World):MapI (w.alloc (.map #[] 0)) w.heap.size (fun _=>none):=
 ⟨#[],0,(heap_alloc w _).1,fun _=>rfl⟩
theorem MapI.block {w w':World}{b:Nat}{m:Int->Option Value}(h:MapI w b m)(hb:w'.heap[b]? = w.heap[b]?):MapI w' b m:=by
 obtain⟨es,clock,h1,h2⟩:=h;exact⟨es,clock,hb.trans h1,h2⟩
theorem MapI.lt {w:World}{b:Nat}{m:Int->Option Value}(h:MapI w b m):b<w.heap.size:=by
 obtain⟨es,clock,hb,_⟩:=h;exact(Array.getElem?_eq_some_iff.1 hb).1
theorem MapI.keep {w w':World}{b B:Nat}{m:Int->Option Value}(h:MapI w b m)(hb:Below B w w')(hB:b<B):MapI w' b m:=h.block (hb.block b hB)
theorem MapI.congr {w:World}{b:Nat}{m m':Int->Option Value}(h:MapI w b m)(e:∀ k,m' k=m k):MapI w b m':=by
 obtain⟨es,clock,h1,h2⟩:=h;exact⟨es,clock,h1,fun k=>by rw[e k];exact h2 k⟩
theorem findNow_push (d:TypeDesc)(k:Value)(e:MapEntry):∀(l:List MapEntry)(i:Nat),
  (∀ r,Instr.findNow d k l i=some (some r)->Instr.findNow d k (l++[e]) i=some (some r)) /\
  (Instr.findNow d k l i=some none->Instr.findNow d k (l++[e]) i=match Instr.sameNow d k e.key with | some true=>some (some (i+l.length,e.val)) | some false=>some none | none=>none)
 | [],i=>⟨fun r h=>by simp[Instr.findNow]at h,fun _=>by simp only[List.nil_append,Instr.findNow];cases Instr.sameNow d k e.key with
   | none=>rfl
   | some x=>cases x<;>simp⟩
 | x::l,i=>by
  obtain⟨h1,h2⟩:=findNow_push d k e l (i+1);simp only[List.cons_append,Instr.findNow];cases hs:Instr.sameNow d k x.key with
  | none=>exact⟨fun r h=>(by cases h),fun h=>(by cases h)⟩
  | some y=>
   cases y with
   | true=>exact⟨fun r h=>h,fun h=>(by cases h)⟩
   | false=>
    refine⟨fun r h=>h1 r h,fun h=>?_⟩;have:=h2 h;simp only at this ⊢;rw[this];cases Instr.sameNow d k e.key with
    | none=>rfl
    | some z=>cases z<;>simp<;>omega
theorem MapI.look {P:Program}{w:World}{b t kt et:Nat}{m:Int->Option Value}(h:MapI w b m)(ht:P.underlying t=some (.map kt et))(hk:P.underlying kt=some (.int .i64)){z:Value}(hz:(zeroValue et).run P w=.ok z w)(k:Int)(c:Bool) :
  (Instr.lookup t (.map (some b)) (.int .i64 k) c).run P w=.ok (if c then .tuple #[(m k).getD z,.bool (m k).isSome]else(m k).getD z) w:=by
 obtain⟨es,clock,h1,h2⟩:=h;have h3:=h2 k;have ik:IsKey (.int .i64) (.int .i64 k):=by simp[IsKey]
 cases hm:m k with
 | none=>
  rw[hm]at h3;simp[Instr.lookup,run_underlying ht,MapKept.run_getObj_map h1,run_checkKey hk ik,run_findKey hk h3,hz,Result.andThen]
 | some v=>
  rw[hm]at h3;obtain⟨i,h3⟩:=h3;simp[Instr.lookup,run_underlying ht,MapKept.run_getObj_map h1,run_checkKey hk ik,run_findKey hk h3,Result.andThen]
theorem MapI.put {P:Program}{w:World}{b t kt et:Nat}{m:Int->Option Value}(h:MapI w b m)(ht:P.underlying t=some (.map kt et))(hk:P.underlying kt=some (.int .i64))(k:Int)(v:Value)(hnew:m k=none) :
  ∃ w',(Instr.mapUpdate t (.map (some b)) (.int .i64 k) v).run P w=.ok () w'/\MapI w' b (fun j=>if j=k then some v else m j)/\w.grownBy w' (some b):=by
 obtain⟨es,clock,h1,h2⟩:=h;have h3:=h2 k;have ik:IsKey (.int .i64) (.int .i64 k):=by simp[IsKey]
 rw[hnew]at h3;refine⟨{ w with heap:=w.heap.setIfInBounds b (.map (es.push { key:=.int .i64 k,val:=v,born:=clock }) (clock+1)) },by simp[Instr.mapUpdate,run_underlying ht,MapKept.run_getObj_map h1,run_checkKey hk ik,run_findKey hk h3,run_setObj_map _ h1,Result.andThen],⟨_,_,(heap_set h1).1,fun j=>?_⟩,⟨rfl,rfl,rfl,by simp,fun i _ hi=>(heap_set h1).2 i (fun e=>hi (by rw[e]))⟩⟩;have h4:=h2 j;obtain⟨p1,p2⟩:=findNow_push (.int .i64) (.int .i64 j) { key:=.int .i64 k,val:=v,born:=clock } es.toList 0;by_cases e:j=k
 ·subst e;dsimp only;rw[if_pos rfl];rw[hnew]at h4;refine⟨0+es.toList.length,?_⟩;rw[Array.toList_push,p2 h4];simp[Instr.sameNow]
 ·dsimp only;rw[if_neg e];have e':(j==k)=false:=by simpa using e
  cases hm:m j with
  | none=>
   rw[hm]at h4;simp only;rw[Array.toList_push,p2 h4];simp[Instr.sameNow,e']
  | some u=>
   rw[hm]at h4;obtain⟨i,h4⟩:=h4;exact⟨i,by rw[Array.toList_push];exact p1 _ h4⟩
end Go.Proofs.YtpmeihghljnfeaaDoor
namespace Go.Proofs.YtpmeihghljnfeaaDoor
open Go.RowKit
structure ButS (T:Nat->Prop)(B:Nat)(w w':World):Prop where
 os:w'.os=w.os
 tape:w'.tape=w.tape
 output:w'.output=w.output
 size:w.heap.size<=w'.heap.size
 block:∀ k,k<B->¬T k->w'.heap[k]? = w.heap[k]?
section
variable {T:Nat->Prop} {B B':Nat} {w w' w2:World}
theorem ButS.refl (T:Nat->Prop)(B:Nat)(w:World):ButS T B w w:=⟨rfl,rfl,rfl,Nat.le_refl _,fun _ _ _=>rfl⟩
theorem ButS.trans (h:ButS T B w w')(k:ButS T B w' w2):ButS T B w w2:=⟨k.os.trans h.os,k.tape.trans h.tape,k.output.trans h.output,Nat.le_trans h.size k.size,fun i hi hs=>(k.block i hi hs).trans (h.block i hi hs)⟩
theorem ButS.mono (h:ButS T B w w')(hB:B'<=B):ButS T B' w w':=⟨h.os,h.tape,h.output,h.size,fun k hk hs=>h.block k (Nat.lt_of_lt_of_le hk hB) hs⟩
theorem ButS.next (h:ButS T w.heap.size w w')(k:ButS T w'.heap.size w' w2):ButS T w.heap.size w w2:=h.trans (k.mono h.size)
theorem ButS.of_below (h:Below B w w'):ButS T B w w':=⟨h.os,h.tape,h.output,h.size,fun k hk _=>h.block k hk⟩
theorem ButS.alloc (h:ButS T B w w')(hB:B<=w'.heap.size)(o:Obj):ButS T B w (w'.alloc o):=h.trans (.of_below ((Below.refl _ _).alloc hB o))
theorem ButS.drew (h:ButS T B w w'):ButS T B w w'.drew:=⟨h.os,h.tape,h.output,h.size,h.block⟩
theorem ButS.set (h:ButS T B w w'){s:Nat}(hs:T s)(j:Nat)(v:Value):ButS T B w (w'.setCell ⟨s,j,none⟩ v):=
 ⟨h.os,h.tape,h.output,by simpa using h.size,fun k hk hn=>(Below.heap_setCell w' ⟨s,j,none⟩ v k (fun e=>hn (e ▸ hs))).trans (h.block k hk hn)⟩
theorem ButS.cell (h:ButS T B w w'){b:Nat}(hb:b<B)(hs:¬T b)(o:Nat):w'.cell? ⟨b,o,none⟩=w.cell? ⟨b,o,none⟩:=World.cell?_of_block (a:=⟨b,o,none⟩) (h.block b hb hs)
theorem ButS.same {S:Nat->Prop}(h:ButS T B w w')(hS:∀ b,S b->b<B/\¬T b):Same S w w':=fun b hb=>h.block b (hS b hb).1 (hS b hb).2
theorem ButS.below (h:ButS T w.heap.size w w')(hT:∀ k,T k->B<=k)(hB:B<=w.heap.size):Below B w w':=
 ⟨h.os,h.tape,h.output,h.size,fun k hk=>h.block k (Nat.lt_of_lt_of_le hk hB) (fun t=>absurd (hT k t) (by omega))⟩
end
structure VC where
 vb:Nat
 sb:Nat
 kb:Nat
 mb:Nat
 a:Option Addr
 c:Nat
 l:List FnD
 f:Nat
 R:FnR
 S:Nat->Prop
 M:Int->Option Value
structure VS where
 sc:Nat->Int
 lo:Int
 dp:Int
 lc:Int
 lf:Int
 ln:Int
def VC.x (C:VC):FnD:=fnD C.l C.f
def VC.T (C:VC)(b:Nat):Prop:=b=C.vb\/b=C.sb
def visCell (C:VC)(s:VS):Nat->Value
 | 0=>.slice C.a C.l.length C.c
 | 1=>.int .i64 C.f
 | 2=>.string C.x.name
 | 3=>.int .i64 C.x.line
 | 4=>.int .i64 C.x.params
 | 5=>.bool C.x.rest
 | 6=>.slice C.R.va C.x.vars.length C.R.vc
 | 7=>.slice C.R.ua C.x.ups.length C.R.uc
 | 8=>.slice C.R.na C.x.nodes.length C.R.nc
 | 9=>.map (some C.kb)
 | 10=>.map (some C.mb)
 | 11=>.slice (some ⟨C.sb,0,none⟩) C.x.vars.length C.x.vars.length
 | 12=>.int .i64 s.lo
 | 13=>.int .i64 s.dp
 | 14=>.int .i64 s.lc
 | 15=>.int .i64 s.lf
 | 16=>.int .i64 s.ln
 | _=>.int .i64 0
def stepOf (vb:Nat)(k:Int):Option Value:=
 if k=1 then some (.func (.func 55) #[.pointer (some ⟨vb,0,none⟩)] #[])
 else if k=2 then some (.func (.func 56) #[.pointer (some ⟨vb,0,none⟩)] #[])
 else if k=6\/k=7\/k=8 then some (.func (.func 57) #[.pointer (some ⟨vb,0,none⟩)] #[])
 else if k=12 then some (.func (.func 58) #[.pointer (some ⟨vb,0,none⟩)] #[])
 else if k=9\/k=10 then some (.func (.func 59) #[.pointer (some ⟨vb,0,none⟩)] #[])
 else if k=26 then some (.func (.func 60) #[.pointer (some ⟨vb,0,none⟩)] #[])
 else if k=27 then some (.func (.func 61) #[.pointer (some ⟨vb,0,none⟩)] #[])
 else if k=36 then some (.func (.func 62) #[.pointer (some ⟨vb,0,none⟩)] #[])
 else if k=37 then some (.func (.func 63) #[.pointer (some ⟨vb,0,none⟩)] #[])
 else none
structure Vis (C:VC)(s:VS)(w:World):Prop where
 v:w.rowIs C.vb 79 17 (visCell C s)
 sc:w.rowIs C.sb 3 C.x.vars.length (fun j=>.int .i64 (s.sc j))
 k:MapI w C.kb (stepOf C.vb)
 m:MapI w C.mb C.M
 u:FnsAt w C.S C.a C.l
 vars:StrsAt w C.S C.R.va C.x.vars
 ups:UpsAt w C.S C.R.ua C.x.ups
 nodes:NodesAt w C.S C.R.na C.x.nodes
 sS:∀ b,C.S b->b<w.heap.size/\¬C.T b
 n1:C.vb≠C.sb
 n2:¬C.T C.kb
 n3:¬C.T C.mb
 hf:C.f<C.l.length
 nv:C.x.vars.length<=200
section
variable {C:VC} {s s':VS} {w w':World}
theorem Vis.keep (h:Vis C s w)(hb:Below w.heap.size w w'):Vis C s w' where
 v:=h.v.of_block (hb.block _ h.v.lt)
 sc:=h.sc.of_block (hb.block _ h.sc.lt)
 k:=h.k.keep hb h.k.lt
 m:=h.m.keep hb h.m.lt
 u:=h.u.keep hb (fun b hs=>(h.sS b hs).1)
 vars:=h.vars.keep hb (fun b hs=>(h.sS b hs).1)
 ups:=h.ups.keep hb (fun b hs=>(h.sS b hs).1)
 nodes:=h.nodes.keep hb (fun b hs=>(h.sS b hs).1)
 sS:=fun b hs=>⟨Nat.lt_of_lt_of_le (h.sS b hs).1 hb.size,(h.sS b hs).2⟩
 n1:=h.n1
 n2:=h.n2
 n3:=h.n3
 hf:=h.hf
 nv:=h.nv
theorem Vis.alloc (h:Vis C s w)(o:Obj):Vis C s (w.alloc o):=h.keep ((Below.refl _ _).alloc (Nat.le_refl _) o)
theorem Vis.drew (h:Vis C s w):Vis C s w.drew:=h.keep (Below.refl _ _).drew
theorem Vis.turn (h:Vis C s w)(hb:ButS C.T w.heap.size w w')(hv:w'.rowIs C.vb 79 17 (visCell C s'))(hsc:w'.rowIs C.sb 3 C.x.vars.length (fun j=>.int .i64 (s'.sc j))):Vis C s' w' where
 v:=hv
 sc:=hsc
 k:=h.k.block (hb.block _ h.k.lt h.n2)
 m:=h.m.block (hb.block _ h.m.lt h.n3)
 u:=h.u.same (hb.same h.sS)
 vars:=h.vars.same (hb.same h.sS)
 ups:=h.ups.same (hb.same h.sS)
 nodes:=h.nodes.same (hb.same h.sS)
 sS:=fun b hs=>⟨Nat.lt_of_lt_of_le (h.sS b hs).1 hb.size,(h.sS b hs).2⟩
 n1:=h.n1
 n2:=h.n2
 n3:=h.n3
 hf:=h.hf
 nv:=h.nv
theorem VC.Tv (C:VC):C.T C.vb:=.inl rfl
theorem VC.Ts (C:VC):C.T C.sb:=.inr rfl
theorem Vis.setLo (h:Vis C s w)(x:Int):Vis C { s with lo:=x } (w.setCell ⟨C.vb,12,none⟩ (.int .i64 x)):=
 h.turn ((ButS.refl _ _ _).set C.Tv _ _) ((h.v.set 12 _).congr fun i hi=>by
  match i,hi with
  | 0,_=>rfl | 1,_=>rfl | 2,_=>rfl | 3,_=>rfl | 4,_=>rfl | 5,_=>rfl | 6,_=>rfl | 7,_=>rfl | 8,_=>rfl | 9,_=>rfl | 10,_=>rfl | 11,_=>rfl | 12,_=>rfl | 13,_=>rfl | 14,_=>rfl | 15,_=>rfl | 16,_=>rfl | n+17,h=>exact absurd h (by omega)) (h.sc.setOther h.n1.symm _)
theorem Vis.setDp (h:Vis C s w)(x:Int):Vis C { s with dp:=x } (w.setCell ⟨C.vb,13,none⟩ (.int .i64 x)):=
 h.turn ((ButS.refl _ _ _).set C.Tv _ _) ((h.v.set 13 _).congr fun i hi=>by
  match i,hi with
  | 0,_=>rfl | 1,_=>rfl | 2,_=>rfl | 3,_=>rfl | 4,_=>rfl | 5,_=>rfl | 6,_=>rfl | 7,_=>rfl | 8,_=>rfl | 9,_=>rfl | 10,_=>rfl | 11,_=>rfl | 12,_=>rfl | 13,_=>rfl | 14,_=>rfl | 15,_=>rfl | 16,_=>rfl | n+17,h=>exact absurd h (by omega)) (h.sc.setOther h.n1.symm _)
theorem Vis.setLc (h:Vis C s w)(x:Int):Vis C { s with lc:=x } (w.setCell ⟨C.vb,14,none⟩ (.int .i64 x)):=
 h.turn ((ButS.refl _ _ _).set C.Tv _ _) ((h.v.set 14 _).congr fun i hi=>by
  match i,hi with
  | 0,_=>rfl | 1,_=>rfl | 2,_=>rfl | 3,_=>rfl | 4,_=>rfl | 5,_=>rfl | 6,_=>rfl | 7,_=>rfl | 8,_=>rfl | 9,_=>rfl | 10,_=>rfl | 11,_=>rfl | 12,_=>rfl | 13,_=>rfl | 14,_=>rfl | 15,_=>rfl | 16,_=>rfl | n+17,h=>exact absurd h (by omega)) (h.sc.setOther h.n1.symm _)
theorem Vis.setLf (h:Vis C s w)(x:Int):Vis C { s with lf:=x } (w.setCell ⟨C.vb,15,none⟩ (.int .i64 x)):=
 h.turn ((ButS.refl _ _ _).set C.Tv _ _) ((h.v.set 15 _).congr fun i hi=>by
  match i,hi with
  | 0,_=>rfl | 1,_=>rfl | 2,_=>rfl | 3,_=>rfl | 4,_=>rfl | 5,_=>rfl | 6,_=>rfl | 7,_=>rfl | 8,_=>rfl | 9,_=>rfl | 10,_=>rfl | 11,_=>rfl | 12,_=>rfl | 13,_=>rfl | 14,_=>rfl | 15,_=>rfl | 16,_=>rfl | n+17,h=>exact absurd h (by omega)) (h.sc.setOther h.n1.symm _)
theorem Vis.setLn (h:Vis C s w)(x:Int):Vis C { s with ln:=x } (w.setCell ⟨C.vb,16,none⟩ (.int .i64 x)):=
 h.turn ((ButS.refl _ _ _).set C.Tv _ _) ((h.v.set 16 _).congr fun i hi=>by
  match i,hi with
  | 0,_=>rfl | 1,_=>rfl | 2,_=>rfl | 3,_=>rfl | 4,_=>rfl | 5,_=>rfl | 6,_=>rfl | 7,_=>rfl | 8,_=>rfl | 9,_=>rfl | 10,_=>rfl | 11,_=>rfl | 12,_=>rfl | 13,_=>rfl | 14,_=>rfl | 15,_=>rfl | 16,_=>rfl | n+17,h=>exact absurd h (by omega)) (h.sc.setOther h.n1.symm _)
theorem Vis.setSc (h:Vis C s w)(j:Nat)(x:Int)(g:Nat->Int)(hg:∀ i,i<C.x.vars.length->g i=if i=j then x else s.sc i):Vis C { s with sc:=g } (w.setCell ⟨C.sb,j,none⟩ (.int .i64 x)):=
 h.turn ((ButS.refl _ _ _).set C.Ts _ _) (h.v.setOther h.n1 _) ((h.sc.set j _).congr fun i hi=>by
  dsimp only;rw[hg i hi];split<;>rfl)
end
end Go.Proofs.YtpmeihghljnfeaaDoor

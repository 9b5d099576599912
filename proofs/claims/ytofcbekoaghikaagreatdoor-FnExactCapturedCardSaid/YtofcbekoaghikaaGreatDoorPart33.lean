import Derived.Test.YtofcbekoaghikaaGreatDoorPart32
import Derived.Deep.OwnRows
import Derived.Deep.RegionWith
import Derived.BigQuiet
import Derived.WalkSmall
set_option linter.unusedSimpArgs false
set_option linter.unusedVariables false
set_option maxHeartbeats 400000
namespace Go.Proofs.YtofcbekoaghikaaGreatDoor
open Go.RowKit
def RowB (w:World)(a:Option Addr)(n:Nat)(f:Nat->Bool):Prop:=0<n->∃ b,a=some ⟨b,0,none⟩/\w.rowIs b 4 n (fun j=>.bool (f j))
def AtB (a:Option Addr)(b:Nat):Prop:=∃ off,a=some ⟨b,off,none⟩
section
variable {w w':World} {a:Option Addr} {n:Nat} {f:Nat->Bool}
theorem RowB.same (h:RowB w a n f)(hb:∀ b,AtB a b->w'.heap[b]? = w.heap[b]?):RowB w' a n f:=fun hn=>by
 obtain⟨b,rfl,hr⟩:=h hn;exact⟨b,rfl,hr.of_block (hb b ⟨0,rfl⟩)⟩
theorem RowB.below (h:RowB w a n f)(hb:Below w.heap.size w w'):RowB w' a n f:=fun hn=>by
 obtain⟨b,rfl,hr⟩:=h hn;exact⟨b,rfl,hr.of_block (hb.block b hr.lt)⟩
theorem RowB.congr {g:Nat->Bool}(h:RowB w a n f)(e:∀ i,i<n->f i=g i):RowB w a n g:=fun hn=>by
 obtain⟨b,rfl,hr⟩:=h hn;exact⟨b,rfl,hr.congr (fun i hi=>by rw[e i hi])⟩
end
theorem markBoolS_any (a:Option Addr)(n c:Nat)(k:Int)(f:Nat->Bool)(w:World)(hs:RowB w a n f)(h0:0<=k)(hk:k+n<=1000000000000) :
  Calls Tryz.prog 11 #[.slice a n c,.int .i64 k] w fun e w'=>e=.returned (.int .i64 (k+n))/\RowB w' a n (fun j=>((k+j) % 3==0))/\Mk (AtB a) w w':=by
 by_cases hn:0<n
 case neg=>
  have hn0:n=0:=by omega
  subst hn0;go_enter Tryz.func11,Tryz.ntmps11;go_wp2_with fail
  go_loopw [1,5] (fun q i wr=>q=.int .i64 k/\i=.int .i64 0/\wr=w) (fun _ _ _=>0)
  case atStart=>exact⟨rfl,rfl,rfl⟩
  case round=>
   obtain⟨rfl,rfl,rfl⟩:=hrel;go_wp2_with fail
   go_ret;exact⟨by simp,fun h=>absurd h (by omega),Mk.refl _ _⟩
 obtain⟨b,rfl,hr⟩:=hs hn;go_enter Tryz.func11,Tryz.ntmps11;go_wp2_with fail
 go_loopw [1,5] (fun q i wr=>∃(j:Nat),j<=n/\q=.int .i64 (k+j)/\i=.int .i64 j/\Mk (AtB (some ⟨b,0,none⟩)) w wr/\wr.rowIs b 4 n (fun i=>if i<j then .bool (((k+i) % 3==0))else .bool (f i))) (fun _ i _=>n-(intOf i).toNat)
 case atStart=>exact⟨0,Nat.zero_le _,by simp,rfl,Mk.refl _ _,hr.congr (fun i hi=>by simp)⟩
 case round=>
  obtain⟨j,hj,rfl,rfl,hm,hrow⟩:=hrel;by_cases hlt:j<n
  ·have hg:=hrow.cell hlt;rw[if_neg (Nat.lt_irrefl _)]at hg;have hf:=hrow.frozen j;go_wp2_with fail
   go_roundw
   case rel=>
    refine⟨j+1,by omega,by go_num,by go_num,hm.trans (Mk.set ⟨0,rfl⟩ hg trivial _ trivial),(hrow.set j _).congr fun i hi=>?_⟩;by_cases e:i=j
    ·subst e;simp
    ·have:(i<j+1)=(i<j):=by apply propext;omega
     simp[e,this]
   case measure=>simp[intOf];omega
  ·have HK:Hid (j=n):=by show _=_;omega
   go_wp2_with fail
   go_ret;have e:=HK.out;subst e;exact⟨rfl,fun _=>⟨b,rfl,hrow.congr (fun i hi=>by simp[hi])⟩,hm⟩
theorem heldBoolS_any (a:Option Addr)(n c:Nat)(k:Int)(w:World)(hs:RowB w a n (fun j=>((k+j) % 3==0)))(h0:0<=k)(hk:k+n<=1000000000000) :
  Calls Tryz.prog 12 #[.slice a n c,.int .i64 k] w fun e w'=>e=.returned (.int .i64 (k+n))/\Below w.heap.size w w':=by
 go_enter Tryz.func12,Tryz.ntmps12;go_wp2_with fail
 go_loopw [1,5] (fun q i wr=>∃(j:Nat),j<=n/\q=.int .i64 (k+j)/\i=.int .i64 j/\Below w.heap.size w wr) (fun _ i _=>n-(intOf i).toNat)
 case atStart=>exact⟨0,Nat.zero_le _,by simp,rfl,Below.refl _ _⟩
 case round=>
  obtain⟨j,hj,rfl,rfl,hb⟩:=hrel;by_cases hlt:j<n
  ·obtain⟨b,rfl,hr⟩:=(hs.below hb) (by omega);have hg:=hr.cell hlt;have hf:=hr.frozen j;clear hr;have hxx:(((k+(j:Int)) % 3==0) != ((k+(j:Int)) % 3==0))=false:=by simp
   go_wp2_with fail
   go_roundw
   case rel=>exact⟨j+1,by omega,by go_num,by go_num,hb⟩
   case measure=>simp[intOf];omega
  ·have HK:Hid (j=n):=by show _=_;omega
   go_wp2_with fail
   go_ret;rw[HK.out];exact⟨rfl,hb⟩
theorem eqBoolS_same (a b:Option Addr)(n ca cb:Nat)(f:Nat->Bool)(w:World)(h1:RowB w a n f)(h2:RowB w b n f)(hn:n<=1000000000000) :
  Calls Tryz.prog 8 #[.slice a n ca,.slice b n cb] w fun e w'=>e=.returned (.bool true)/\Below w.heap.size w w':=by
 have hne:((n:Int) != (n:Int))=false:=by simp
 go_enter Tryz.func8,Tryz.ntmps8;go_wp2_with fail
 go_loopw [5] (fun i wr=>∃(k:Nat),k<=n/\i=.int .i64 k/\Below w.heap.size w wr) (fun i _=>n-(intOf i).toNat)
 case atStart=>exact⟨0,Nat.zero_le _,rfl,Below.refl _ _⟩
 case round=>
  obtain⟨k,hk,rfl,hbw⟩:=hrel;by_cases hlt:k<n
  ·obtain⟨b1,rfl,hr1⟩:=(h1.below hbw) (by omega);obtain⟨b2,rfl,hr2⟩:=(h2.below hbw) (by omega);have e1:=hr1.cell hlt;have e2:=hr2.cell hlt;clear hr1 hr2;generalize f k=x at *;have hxx:(x != x)=false:=by simp
   go_wp2_with fail
   go_region
   all_goals (go_wp2_with fail)
   all_goals go_roundw
   all_goals first | (case rel=>exact⟨k+1,by omega,by go_num,hbw.drew⟩) | skip
   all_goals (simp[intOf];omega)
  ·go_wp2_with fail
   go_ret;exact⟨rfl,hbw⟩
end Go.Proofs.YtofcbekoaghikaaGreatDoor

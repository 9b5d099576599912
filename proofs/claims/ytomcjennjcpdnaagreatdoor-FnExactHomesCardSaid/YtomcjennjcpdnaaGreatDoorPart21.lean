import Derived.Test.YtomcjennjcpdnaaGreatDoorPart02
import Derived.Test.YtomcjennjcpdnaaGreatDoorPart19
import Derived.Deep.OwnRows
import Derived.Deep.RegionWith
import Derived.BigQuiet
import Derived.WalkSmall
import Derived.Test.YtomcjennjcpdnaaGreatDoorPart09
import Derived.Test.YtomcjennjcpdnaaGreatDoorPart03
import Derived.Deep.RegionHeld3
set_option linter.unusedSimpArgs false
set_option linter.unusedVariables false
set_option maxHeartbeats 8000000
set_option maxRecDepth 100000
namespace Go.Proofs.YtomcjennjcpdnaaGreatDoor
open Go.RowKit
attribute [local go_sem] run_store_float
def SoftFrom (B:Nat)(w:World):Prop:=∀ b,B<=b->∀ o,w.frozen? ⟨b,o,none⟩=false
def BelowS (B:Nat)(w w':World):Prop:=Below B w w'/\(SoftFrom B w->SoftFrom B w')
theorem SoftFrom.start (w:World):SoftFrom w.heap.size w:=fun b hb o=>by
 have:w.heap[b]? = none:=Array.getElem?_eq_none hb;simp[World.frozen?,this]
section
variable {B:Nat} {w w' w2:World}
theorem BelowS.refl (B:Nat)(w:World):BelowS B w w:=⟨Below.refl _ _,id⟩
theorem BelowS.size (h:BelowS B w w'):w.heap.size<=w'.heap.size:=h.1.size
theorem BelowS.block (h:BelowS B w w'):∀ b,b<B->w'.heap[b]? = w.heap[b]?:=h.1.block
theorem BelowS.trans {B:Nat}{a b c:World}(h:BelowS B a b)(k:BelowS B b c):BelowS B a c:=⟨h.1.trans k.1,fun s=>k.2 (h.2 s)⟩
theorem BelowS.mono {B':Nat}(h:BelowS B w w')(hB:B'<=B):BelowS B' w w':=
 ⟨h.1.mono hB,fun s b hb o=>by
  by_cases e:b<B
  ·have:=h.1.frozen (p:=⟨b,o,none⟩) e;rw[this];exact s b hb o
  ·exact h.2 (fun b' hb'=>s b' (Nat.le_trans hB hb')) b (Nat.le_of_not_lt e) o⟩
theorem BelowS.setCell (h:BelowS B w w'){a:Addr}(ha:B<=a.block)(v:Value):BelowS B w (w'.setCell a v):=
 ⟨h.1.setCell ha v,fun s b hb o=>by rw[World.frozen?_setCell];exact h.2 s b hb o⟩
theorem BelowS.alloc (h:BelowS B w w')(hB:B<=w'.heap.size){c:Array Value}{t:TypeId}(_:Unit):BelowS B w (w'.alloc (.cells c t)):=
 ⟨h.1.alloc hB _,fun s b hb o=>by rw[frozen?_alloc_cells];exact h.2 s b hb o⟩
theorem BelowS.soft (h:BelowS w.heap.size w w'):SoftFrom w.heap.size w':=h.2 (SoftFrom.start w)
end
theorem bcellS {W w1:World}(hb:BelowS W.heap.size W w1):(∀ b o,b<W.heap.size->w1.cell? ⟨b,o,none⟩=W.cell? ⟨b,o,none⟩)/\(∀ b o,b<W.heap.size->w1.frozen? ⟨b,o,none⟩=W.frozen? ⟨b,o,none⟩):=bcell hb.1
theorem belowS_put8 {B:Nat}{w w1:World}(h:BelowS B w w1)(G k:Nat)(hG:B<=G)(v0 v1 v2 v3 v4 v5 v6 v7:Value) :
  BelowS B w ((((((((w1.setCell ⟨G,k * 8,none⟩ v0).setCell ⟨G,k * 8+1,none⟩ v1).setCell ⟨G,k * 8+2,none⟩ v2).setCell ⟨G,k * 8+3,none⟩ v3).setCell ⟨G,k * 8+4,none⟩ v4).setCell ⟨G,k * 8+5,none⟩ v5).setCell ⟨G,k * 8+6,none⟩ v6).setCell ⟨G,k * 8+7,none⟩ v7):=by
 iterate 8 refine BelowS.setCell ?_ hG _
 exact h
theorem belowS_put7 {B:Nat}{w w1:World}(h:BelowS B w w1)(G k:Nat)(hG:B<=G)(v0 v1 v2 v3 v4 v5 v6:Value) :
  BelowS B w (((((((w1.setCell ⟨G,k * 7,none⟩ v0).setCell ⟨G,k * 7+1,none⟩ v1).setCell ⟨G,k * 7+2,none⟩ v2).setCell ⟨G,k * 7+3,none⟩ v3).setCell ⟨G,k * 7+4,none⟩ v4).setCell ⟨G,k * 7+5,none⟩ v5).setCell ⟨G,k * 7+6,none⟩ v6):=by
 iterate 7 refine BelowS.setCell ?_ hG _
 exact h
theorem toIntS_soft (a:Option Addr)(l:List Int)(c:Nat)(S:Nat->Prop)(w:World)(hs:IntsAt w S a l)(hB:∀ b,S b->b<w.heap.size)(hl:l.length<=1048576) :
  Calls Tryz.prog 120 #[.slice a l.length c] w fun e w'=>∃ a' c',e=.returned (.slice a' l.length c')/\IntsAt w' (New w.heap.size w') a' l/\BelowS w.heap.size w w'/\l.length<=c':=by
 have hn:=hs.1;have hmk:=run_make_row' (P:=Tryz.prog) 26 3 (.int .i64 0) 8 Tryz.underlying26 info_int rfl .i64 .i64 l.length (by omega) hn;go_enter Tryz.func120,Tryz.ntmps120;go_wp2_with fail
 clear hmk;go_loopw [4] (fun i wr=>∃(k:Nat),k<=l.length/\i=.int .i64 k/\BelowS w.heap.size w wr/\wr.rowIs w.heap.size 3 l.length (fun j=>if j<k then .int .i64 (l[j]?.getD 0)else .int .i64 0)) (fun i _=>l.length-(intOf i).toNat)
 case atStart=>exact⟨0,Nat.zero_le _,rfl,(BelowS.refl _ _).alloc (Nat.le_refl _) (),(World.rowIs_made _ _ _ _).congr (fun i hi=>by simp)⟩
 case round=>
  obtain⟨k,hk,rfl,hbw,hrow⟩:=hrel;by_cases hlt:k<l.length
  ·obtain⟨b,off,rfl,hb,hcc⟩:=(hs.keep hbw.1 hB).2 (by omega);have hc:=hcc k hlt;have hg:=hrow.cell hlt;have hf:=hrow.frozen k;clear hcc;go_wp2_with fail
   go_roundw
   case rel=>
    refine⟨k+1,by omega,by go_num,hbw.setCell (Nat.le_refl _) _,(hrow.set k _).congr fun i hi=>?_⟩;by_cases e:i=k
    ·subst e;simp[hlt]
    ·have:(i<k+1)=(i<k):=by apply propext;omega
     simp[e,this]
   case measure=>simp[intOf];omega
  ·have HK:Hid (k=l.length):=by show _=_;omega
   go_wp2_with fail
   go_ret;refine⟨_,_,rfl,⟨hn,fun h0=>⟨_,0,rfl,⟨Nat.le_refl _,hrow.lt⟩,fun j hj=>?_⟩⟩,hbw,Nat.le_refl _⟩;have:=hrow.cell hj;rw[HK.out]at this;simpa[hj]using this
theorem toStringS_soft (a:Option Addr)(l:List ByteArray)(c:Nat)(S:Nat->Prop)(w:World)(hs:StrsAt w S a l)(hB:∀ b,S b->b<w.heap.size)(hl:l.length<=1048576) :
  Calls Tryz.prog 59 #[.slice a l.length c] w fun e w'=>∃ a' c',e=.returned (.slice a' l.length c')/\StrsAt w' (New w.heap.size w') a' l/\BelowS w.heap.size w w':=by
 have hn:=hs.1;have hmk:=run_make_row' (P:=Tryz.prog) 56 9 (.string ByteArray.empty) 16 Tryz.underlying56 info_string rfl .i64 .i64 l.length (by omega) hn;go_enter Tryz.func59,Tryz.ntmps59;go_wp2_with fail
 clear hmk;go_loopw [4] (fun i wr=>∃(k:Nat),k<=l.length/\i=.int .i64 k/\BelowS w.heap.size w wr/\wr.rowIs w.heap.size 9 l.length (fun j=>if j<k then .string (l[j]?.getD ByteArray.empty)else .string ByteArray.empty)) (fun i _=>l.length-(intOf i).toNat)
 case atStart=>exact⟨0,Nat.zero_le _,rfl,(BelowS.refl _ _).alloc (Nat.le_refl _) (),(World.rowIs_made _ _ _ _).congr (fun i hi=>by simp)⟩
 case round=>
  obtain⟨k,hk,rfl,hbw,hrow⟩:=hrel;by_cases hlt:k<l.length
  ·obtain⟨b,off,rfl,hb,hcc⟩:=(hs.keep hbw.1 hB).2 (by omega);have hc:=(hcc k hlt).2;have hg:=hrow.cell hlt;have hf:=hrow.frozen k;clear hcc;go_wp2_with fail
   go_roundw
   case rel=>
    refine⟨k+1,by omega,by go_num,hbw.setCell (Nat.le_refl _) _,(hrow.set k _).congr fun i hi=>?_⟩;by_cases e:i=k
    ·subst e;simp[hlt]
    ·have:(i<k+1)=(i<k):=by apply propext;omega
     simp[e,this]
   case measure=>simp[intOf];omega
  ·have HK:Hid (k=l.length):=by show _=_;omega
   go_wp2_with fail
   go_ret;refine⟨_,_,rfl,⟨hn,fun h0=>⟨_,0,rfl,⟨Nat.le_refl _,hrow.lt⟩,fun j hj=>⟨?_,?_⟩⟩⟩,hbw⟩
   ·obtain⟨b,off,_,_,hcc⟩:=hs.2 h0;exact(hcc j hj).1
   ·have:=hrow.cell hj;rw[HK.out]at this;simpa[hj]using this
theorem toUp_soft (x:Bool)(i:Int)(w:World) :
  Calls Tryz.prog 90 #[.agg #[.bool x,.int .i64 i]] w fun e w'=>e=.returned (.agg #[.bool x,.int .i64 i])/\BelowS w.heap.size w w':=by
 go_enter Tryz.func90,Tryz.ntmps90;go_wp2_with fail
 exact bodyPost_ret (v:=.agg #[.bool x,.int .i64 i]) (by simp[results,Tryz.results90,go_sem]) rfl ⟨rfl,by repeat (first | refine BelowS.alloc ?_ (by simp<;>omega) () | exact BelowS.refl _ _)⟩
theorem toUpS_soft (a:Option Addr)(l:List (Bool×Int))(c:Nat)(S:Nat->Prop)(w:World)(hs:UpsAt w S a l)(hB:∀ b,S b->b<w.heap.size)(hl:l.length<=1048576) :
  Calls Tryz.prog 60 #[.slice a l.length c] w fun e w'=>∃ a' c',e=.returned (.slice a' l.length c')/\UpsAt w' (New w.heap.size w') a' l/\BelowS w.heap.size w w':=by
 have hn:=hs.1;have hmk:∀ w:World,(Instr.makeSlice 43 (.int .i64 (l.length:Int)) (.int .i64 (l.length:Int))).run Tryz.prog w=.ok (.slice (some ⟨w.heap.size,0,none⟩) l.length l.length) (w.alloc (.cells (madeCells upZ (l.length * 2)) 69)):=
  run_make_wide (P:=Tryz.prog) 43 69 _ 2 16 Tryz.underlying43 info_up .i64 .i64 l.length (by omega) hn
 go_enter Tryz.func60,Tryz.ntmps60;go_wp2_with fail
 clear hmk;go_loopw [4] (fun i wr=>∃(k:Nat),k<=l.length/\i=.int .i64 k/\BelowS w.heap.size w wr/\wr.rowIs w.heap.size 69 (l.length * 2) (fun j=>if j / 2<k then(if j % 2=0 then .bool (l[j / 2]?.getD (false,0)).1 else .int .i64 (l[j / 2]?.getD (false,0)).2)else upZ[j % 2]!)) (fun i _=>l.length-(intOf i).toNat)
 case atStart=>exact⟨0,Nat.zero_le _,rfl,(BelowS.refl _ _).alloc (Nat.le_refl _) (),(World.rowIs_wide _ _ _ _).congr (fun i hi=>by simp[upZ])⟩
 case round=>
  obtain⟨k,hk,rfl,hbw,hrow⟩:=hrel;by_cases hlt:k<l.length
  ·obtain⟨b,off,rfl,hb,hcc⟩:=(hs.keep hbw.1 hB).2 (by omega);obtain⟨h1,h2⟩:=hcc k hlt;clear hcc;generalize hx:l[k]?.getD (false,0)=x at *;have HX:=hide hx;clear hx;go_wp2_with fail
   refine(toUp_soft _ _ _).mono ?_;rintro e w' ⟨rfl,hb'⟩;have hrow':=hrow.of_block (hb'.block _ hrow.lt);have hf0:=hrow'.frozen (k * 2);have hf1:=hrow'.frozen (k * 2+1);have hg0:=hrow'.cell (i:=k * 2) (by omega);have hg1:=hrow'.cell (i:=k * 2+1) (by omega);go_wp2_with fail
   go_roundw
   case rel=>
    refine⟨k+1,by omega,by go_num,((hbw.trans (hb'.mono hbw.size)).setCell (Nat.le_refl _) _).setCell (Nat.le_refl _) _,((hrow'.set _ _).set _ _).congr fun j hj=>?_⟩;have hx:=unhide HX;have hd:j=k * 2\/j=k * 2+1\/j / 2≠k:=by omega
    rcases hd with rfl | rfl | hd
    ·have e1:k * 2 / 2=k:=by omega
     have e2:¬k * 2=k * 2+1:=by omega
     have e3:k * 2 % 2=0:=by omega
     simp only[e1,e2,e3,if_false,if_true,hx,Nat.lt_succ_self]
    ·have e1:(k * 2+1) / 2=k:=by omega
     have e3:¬(k * 2+1) % 2=0:=by omega
     simp only[e1,e3,if_false,if_true,hx,Nat.lt_succ_self]
    ·have n1:¬j=k * 2:=by omega
     have n2:¬j=k * 2+1:=by omega
     have n3:(j / 2<k+1)=(j / 2<k):=by apply propext;omega
     simp only[n1,n2,n3,if_false]
   case measure=>simp[intOf];omega
  ·have HK:Hid (k=l.length):=by show _=_;omega
   go_wp2_with fail
   go_ret;refine⟨_,_,rfl,⟨hn,fun h0=>⟨_,0,rfl,⟨Nat.le_refl _,hrow.lt⟩,fun j hj=>⟨?_,?_⟩⟩⟩,hbw⟩
   ·have h:=hrow.cell (i:=j * 2) (by omega);have e1:j * 2 / 2=j:=by omega
    have e3:j * 2 % 2=0:=by omega
    rw[HK.out]at h;simpa only[e1,e3,hj,if_true,Nat.zero_add]using h
   ·have h:=hrow.cell (i:=j * 2+1) (by omega);have e1:(j * 2+1) / 2=j:=by omega
    have e3:¬(j * 2+1) % 2=0:=by omega
    rw[HK.out]at h;simpa only[e1,e3,hj,if_true,if_false,Nat.zero_add]using h
attribute [local go_sem] run_store_float
theorem toIntS_softf {a:Option Addr}{l:List Int}{c:Nat}{S:Nat->Prop}(w W:World)(hs:IntsAt w S a l)(hB:∀ b,S b->b<w.heap.size)(hl:l.length<=1048576)(hW:BelowS w.heap.size w W) :
  Calls Tryz.prog 120 #[.slice a l.length c] W fun e w'=>∃ a' c',e=.returned (.slice a' l.length c')/\IntsAt w' (New W.heap.size w') a' l/\BelowS W.heap.size W w'/\l.length<=c':=
 toIntS_soft a l c S W (hs.keep hW.1 hB) (fun b h=>Nat.lt_of_lt_of_le (hB b h) hW.size) hl
theorem toNode_soft (k ln op nm:Int)(fl:Nat)(s:ByteArray)(a1 a2:Option Addr)(l1 l2:List Int)(c1 c2:Nat)(S:Nat->Prop)(w:World)(h1:IntsAt w S a1 l1)(h2:IntsAt w S a2 l2)(hB:∀ b,S b->b<w.heap.size)(hl1:l1.length<=1048576)(hl2:l2.length<=1048576) :
  Calls Tryz.prog 91 #[.agg #[.int .i64 k,.int .i64 ln,.int .i64 op,.int .i64 nm,.float .f64 fl,.string s,.slice a1 l1.length c1,.slice a2 l2.length c2]] w fun e w'=>
   ∃ a1' c1' a2' c2',e=.returned (.agg #[.int .i64 k,.int .i64 ln,.int .i64 op,.int .i64 nm,.float .f64 fl,.string s,.slice a1' l1.length c1',.slice a2' l2.length c2'])/\IntsAt w' (New w.heap.size w') a1' l1/\IntsAt w' (New w.heap.size w') a2' l2/\BelowS w.heap.size w w'/\l2.length<=c2':=by
 go_enter Tryz.func91,Tryz.ntmps91;go_wp2_with fail
 refine(toIntS_softf w _ h1 hB hl1 ?hW).mono ?_
 case hW=>repeat (first | refine BelowS.alloc ?_ (by simp<;>omega) () | refine BelowS.setCell ?_ (by simp<;>omega) _ | exact BelowS.refl _ _)
 rintro e w1 ⟨a1',c1',rfl,hI1,hb1,_⟩;have hbw1:BelowS w.heap.size w w1:=by
  refine BelowS.trans (b:=_) ?_ (hb1.mono (by simp<;>omega))
  repeat (first | refine BelowS.alloc ?_ (by simp<;>omega) () | refine BelowS.setCell ?_ (by simp<;>omega) _ | exact BelowS.refl _ _)
 obtain⟨hc,hf⟩:=bcellS hb1;have hz:w.heap.size+1+1+1<=w1.heap.size:=by have:=hb1.size;simpa using this
 have hz0:w.heap.size<w1.heap.size:=by omega
 have hz1:w.heap.size+1<w1.heap.size:=by omega
 have hz2:w.heap.size+1+1<w1.heap.size:=by omega
 go_wp2_with fail
 refine(toIntS_softf w _ h2 hB hl2 ?hW2).mono ?_
 case hW2=>repeat (first | refine BelowS.alloc ?_ (by simp<;>omega) () | refine BelowS.setCell ?_ (by simp<;>omega) _ | exact hbw1)
 rintro e w2 ⟨a2',c2',rfl,hI2,hb2,hle2⟩;have HLE:=hide hle2;clear hle2;obtain⟨hc2,hf2⟩:=bcellS hb2;have hy:w1.heap.size<=w2.heap.size:=by have:=hb2.size;simpa using this
 have hy0:w.heap.size<w2.heap.size:=by omega
 have hy1:w.heap.size+1<w2.heap.size:=by omega
 have hy2:w.heap.size+1+1<w2.heap.size:=by omega
 have hI1':IntsAt w2 (New (w.heap.size+3) w1) a1' l1:=by
  refine(hI1.mono (S':=New (w.heap.size+3) w1) (fun b h=>⟨by have:=h.1;simp at this;omega,h.2⟩)).same ?_;refine Same.below ?_ hb2.1 (fun b h=>by have:=h.2;simpa using this);refine Same.setCell Same.refl ?_ _;intro h;have:=h.1;simp at this;omega
 have hI2':IntsAt w2 (New (w.heap.size+3) w2) a2' l2:=hI2.mono (fun b h=>⟨by have:=h.1;simp at this;omega,h.2⟩);have hbw2:BelowS w.heap.size w w2:=by
  refine BelowS.trans (b:=_) ?_ (hb2.mono (by simp<;>omega))
  repeat (first | refine BelowS.setCell ?_ (by simp<;>omega) _ | exact hbw1)
 clear hI1 hI2;have p1:¬New (w.heap.size+3) w1 (w.heap.size+1):=fun h=>by have:=h.1;omega
 have p2:¬New (w.heap.size+3) w1 (w.heap.size+1+1):=fun h=>by have:=h.1;omega
 have r1:¬New (w.heap.size+3) w2 (w.heap.size+1):=fun h=>by have:=h.1;omega
 have r2:¬New (w.heap.size+3) w2 (w.heap.size+1+1):=fun h=>by have:=h.1;omega
 have b1:w.heap.size<=w.heap.size+1:=by omega
 have b2:w.heap.size<=w.heap.size+1+1:=by omega
 have m1:∀ W:World,W.heap.size=w2.heap.size->∀ b,New (w.heap.size+3) w1 b->New w.heap.size W b:=fun W e b h=>⟨by have:=h.1;omega,by have:=h.2;omega⟩;have m2:∀ W:World,W.heap.size=w2.heap.size->∀ b,New (w.heap.size+3) w2 b->New w.heap.size W b:=fun W e b h=>⟨by have:=h.1;omega,by have:=h.2;omega⟩;have M:=hide (And.intro (And.intro p1 p2) (And.intro (And.intro r1 r2) (And.intro (And.intro b1 b2) (And.intro m1 m2))));clear p1 p2 r1 r2 b1 b2 m1 m2;go_wp2_with fail
 obtain⟨⟨p1,p2⟩,⟨r1,r2⟩,⟨b1,b2⟩,m1,m2⟩:=unhide M;refine bodyPost_ret (v:=.agg #[.int .i64 k,.int .i64 ln,.int .i64 op,.int .i64 nm,.float .f64 fl,.string s,.slice a1' l1.length c1',.slice a2' l2.length c2']) (by simp[results,Tryz.results91,go_sem,hc,hc2,hz1]) rfl ⟨a1',c1',a2',c2',rfl,?_,?_,?_,unhide HLE⟩
 ·refine(hI1'.same ?_).mono (m1 _ (by simp))
  iterate 8 refine Same.setCell ?_ p1 _
  refine Same.setCell ?_ p2 _;exact Same.refl
 ·refine(hI2'.same ?_).mono (m2 _ (by simp))
  iterate 8 refine Same.setCell ?_ r1 _
  refine Same.setCell ?_ r2 _;exact Same.refl
 ·iterate 8 refine BelowS.setCell ?_ b1 _
  refine BelowS.setCell ?_ b2 _;exact hbw2
theorem toNodeS_soft (a:Option Addr)(l:List NodeD)(c:Nat)(S:Nat->Prop)(w:World)(hs:NodesAt w S a l)(hB:∀ b,S b->b<w.heap.size)(hl:tNodes l<=1048576) :
  Calls Tryz.prog 61 #[.slice a l.length c] w fun e w'=>∃ a' c',e=.returned (.slice a' l.length c')/\NodesAt w' (New w.heap.size w') a' l/\BelowS w.heap.size w w':=by
 have hn:=hs.1;have hll:l.length<=1048576:=by unfold tNodes at hl;omega
 have hel:∀ k,k<l.length->(l[k]?.getD NodeD.z).refs.length<=1048576/\(l[k]?.getD NodeD.z).kids.length<=1048576:=fun k hk=>by
  have h1:=sumTo_succ tNode l k NodeD.z hk;have h2:=sumTo_le tNode l (k+1);unfold tNodes at hl;unfold tNode at h1;unfold tNode at h2 hl;constructor<;>omega
 have HEL:=hide hel;clear hel hl;have hmk:∀ w:World,(Instr.makeSlice 57 (.int .i64 (l.length:Int)) (.int .i64 (l.length:Int))).run Tryz.prog w=.ok (.slice (some ⟨w.heap.size,0,none⟩) l.length l.length) (w.alloc (.cells (madeCells nodeZ (l.length * 8)) 97)):=
  run_make_wide (P:=Tryz.prog) 57 97 _ 8 104 Tryz.underlying57 info_node .i64 .i64 l.length (by omega) hn
 go_enter Tryz.func61,Tryz.ntmps61;go_wp2_with fail
 clear hmk;go_loopw [4] (fun i wr=>∃(k:Nat) (R:Nat->NodeR),k<=l.length/\i=.int .i64 k/\BelowS w.heap.size w wr /\
   wr.rowIs w.heap.size 97 (l.length * 8) (fun j=>if j / 8<k then nodeCell (l[j / 8]?.getD NodeD.z) (R (j / 8)) (j % 8)else nodeZ[j % 8]!) /\
   (∀ i,i<k->IntsAt wr (New (w.heap.size+1) wr) (R i).ra (l[i]?.getD NodeD.z).refs/\IntsAt wr (New (w.heap.size+1) wr) (R i).ka (l[i]?.getD NodeD.z).kids/\(l[i]?.getD NodeD.z).kids.length<=(R i).kc)) (fun i _=>l.length-(intOf i).toNat)
 case atStart=>exact⟨0,fun _=>⟨none,0,none,0⟩,Nat.zero_le _,rfl,(BelowS.refl _ _).alloc (Nat.le_refl _) (),(World.rowIs_wide _ _ _ _).congr (fun i hi=>by simp[nodeZ]),fun i hi=>absurd hi (Nat.not_lt_zero _)⟩
 case round=>
  obtain⟨k,R,hk,rfl,hbw,hrow,hR⟩:=hrel;have HR:=hide hR;clear hR;by_cases hlt:k<l.length
  ·obtain⟨b,off,rfl,hb,hcc⟩:=(hs.keep hbw.1 hB).2 (by omega);have N:=hcc k hlt;obtain⟨hl1,hl2⟩:=unhide HEL k hlt;clear hcc;generalize hx:l[k]?.getD NodeD.z=nd at *;have HX:=hide hx;clear hx;obtain⟨ra,rc,hr,hrI⟩:=N.refs;obtain⟨ka,kc,hkk,hkI⟩:=N.kids;have c0:=N.kind;have c1:=N.line;have c2:=N.op;have c3:=N.num;have c4:=N.flt;have c5:=N.str;have hBr:∀ b,S b->b<wr.heap.size:=fun b h=>Nat.lt_of_lt_of_le (hB b h) hbw.size;go_wp2_with fail
   refine(toNode_soft _ _ _ _ _ _ _ _ _ _ _ _ S _ hrI hkI hBr hl1 hl2).mono ?_;rintro e w' ⟨a1',c1',a2',c2',rfl,hI1,hI2,hb',hle2⟩;have HLE:=hide hle2;clear hle2;have hrow':=hrow.of_block (hb'.block _ hrow.lt);have hf0:=hrow'.frozen (k * 8);have hf1:=hrow'.frozen (k * 8+1);have hf2:=hrow'.frozen (k * 8+2);have hf3:=hrow'.frozen (k * 8+3);have hf4:=hrow'.frozen (k * 8+4);have hf5:=hrow'.frozen (k * 8+5);have hf6:=hrow'.frozen (k * 8+6);have hf7:=hrow'.frozen (k * 8+7);have hg0:=hrow'.cell (i:=k * 8) (by omega);have hg1:=hrow'.cell (i:=k * 8+1) (by omega);have hg2:=hrow'.cell (i:=k * 8+2) (by omega);have hg3:=hrow'.cell (i:=k * 8+3) (by omega);have hg4:=hrow'.cell (i:=k * 8+4) (by omega);have hg5:=hrow'.cell (i:=k * 8+5) (by omega);have hg6:=hrow'.cell (i:=k * 8+6) (by omega);have hg7:=hrow'.cell (i:=k * 8+7) (by omega);clear c0 c1 c2 c3 c4 c5 hr hkk;go_wp2_with fail
   go_roundw
   case rel=>
    clear hg0 hg1 hg2 hg3 hg4 hg5 hg6 hg7 hf0 hf1 hf2 hf3 hf4 hf5 hf6 hf7;have hG:w.heap.size<wr.heap.size:=hrow.lt;have hx:=unhide HX;refine⟨k+1,fun i=>if i=k then⟨a1',c1',a2',c2'⟩else R i,by omega,by go_num,belowS_put8 (hbw.trans (hb'.mono hbw.size)) _ _ (Nat.le_refl _) _ _ _ _ _ _ _ _,(rowIs_put8 hrow' k _ _ _ _ _ _ _ _).congr fun j hj=>?_,fun i hi=>?_⟩
    ·by_cases e:j / 8=k
     ·have e2:j / 8<k+1:=by omega
      simp only[e,if_true,hx,nodeCell,Nat.lt_succ_self]
     ·have e2:(j / 8<k+1)=(j / 8<k):=by apply propext;omega
      simp only[e,if_false,e2]
    ·have hm:∀ W:World,W.heap.size=w'.heap.size->∀ b,New (w.heap.size+1) wr b->New (w.heap.size+1) W b:=fun W e b h=>⟨h.1,by have:=h.2;have:=hb'.size;omega⟩;have hm':∀ W:World,W.heap.size=w'.heap.size->∀ b,New wr.heap.size w' b->New (w.heap.size+1) W b:=fun W e b h=>⟨by have:=h.1;omega,by have:=h.2;omega⟩;have hng:¬New (w.heap.size+1) wr w.heap.size:=fun h=>by have:=h.1;omega
     have hng':¬New wr.heap.size w' w.heap.size:=fun h=>by have:=h.1;omega
     by_cases e:i=k
     ·subst e;simp only[if_true,hx];exact⟨(hI1.same (same_put8 Same.refl _ _ hng' _ _ _ _ _ _ _ _)).mono (hm' _ (size_put8 _ _ _ _ _ _ _ _ _ _ _)),(hI2.same (same_put8 Same.refl _ _ hng' _ _ _ _ _ _ _ _)).mono (hm' _ (size_put8 _ _ _ _ _ _ _ _ _ _ _)),unhide HLE⟩
     ·simp only[e,if_false];obtain⟨h1,h2,h3⟩:=unhide HR i (by omega);have hsame:Same (New (w.heap.size+1) wr) wr w':=.of_below hb'.1 (fun b h=>h.2);exact⟨(h1.same (same_put8 hsame _ _ hng _ _ _ _ _ _ _ _)).mono (hm _ (size_put8 _ _ _ _ _ _ _ _ _ _ _)),(h2.same (same_put8 hsame _ _ hng _ _ _ _ _ _ _ _)).mono (hm _ (size_put8 _ _ _ _ _ _ _ _ _ _ _)),h3⟩
   case measure=>simp[intOf];omega
  ·have HK:Hid (k=l.length):=by show _=_;omega
   go_wp2_with fail
   go_ret;refine⟨_,_,rfl,?_,hbw⟩;have hkl:=HK.out;subst hkl;refine nodes_of_row R hn ⟨Nat.le_refl _,hrow.lt⟩ hrow fun i hi=>?_;obtain⟨h1,h2,h3⟩:=unhide HR i hi;obtain⟨b,off,_,_,hcc⟩:=hs.2 (by omega);exact⟨(hcc i hi).strs,h1.mono (fun b h=>⟨by have:=h.1;omega,h.2⟩),h2.mono (fun b h=>⟨by have:=h.1;omega,h.2⟩),h3⟩
theorem toStringS_softf {a:Option Addr}{l:List ByteArray}{c:Nat}{S:Nat->Prop}(w W:World)(hs:StrsAt w S a l)(hB:∀ b,S b->b<w.heap.size)(hl:l.length<=1048576)(hW:BelowS w.heap.size w W) :
  Calls Tryz.prog 59 #[.slice a l.length c] W fun e w'=>∃ a' c',e=.returned (.slice a' l.length c')/\StrsAt w' (New W.heap.size w') a' l/\BelowS W.heap.size W w':=
 toStringS_soft a l c S W (hs.keep hW.1 hB) (fun b h=>Nat.lt_of_lt_of_le (hB b h) hW.size) hl
theorem toUpS_softf {a:Option Addr}{l:List (Bool×Int)}{c:Nat}{S:Nat->Prop}(w W:World)(hs:UpsAt w S a l)(hB:∀ b,S b->b<w.heap.size)(hl:l.length<=1048576)(hW:BelowS w.heap.size w W) :
  Calls Tryz.prog 60 #[.slice a l.length c] W fun e w'=>∃ a' c',e=.returned (.slice a' l.length c')/\UpsAt w' (New W.heap.size w') a' l/\BelowS W.heap.size W w':=
 toUpS_soft a l c S W (hs.keep hW.1 hB) (fun b h=>Nat.lt_of_lt_of_le (hB b h) hW.size) hl
theorem toNodeS_softf {a:Option Addr}{l:List NodeD}{c:Nat}{S:Nat->Prop}(w W:World)(hs:NodesAt w S a l)(hB:∀ b,S b->b<w.heap.size)(hl:tNodes l<=1048576)(hW:BelowS w.heap.size w W) :
  Calls Tryz.prog 61 #[.slice a l.length c] W fun e w'=>∃ a' c',e=.returned (.slice a' l.length c')/\NodesAt w' (New W.heap.size w') a' l/\BelowS W.heap.size W w':=
 toNodeS_soft a l c S W (hs.keep hW.1 hB) (fun b h=>Nat.lt_of_lt_of_le (hB b h) hW.size) hl
theorem toFn_soft (nm:ByteArray)(ln pr:Int)(rs:Bool)(vs:List ByteArray)(us:List (Bool×Int))(ns:List NodeD)(a4 a5 a6:Option Addr)(c4 c5 c6:Nat)(S:Nat->Prop)(w:World)
  (h4:StrsAt w S a4 vs)(h5:UpsAt w S a5 us)(h6:NodesAt w S a6 ns)(hB:∀ b,S b->b<w.heap.size)(hl4:vs.length<=1048576)(hl5:us.length<=1048576)(hl6:tNodes ns<=1048576) :
  Calls Tryz.prog 33 #[.agg #[.string nm,.int .i64 ln,.int .i64 pr,.bool rs,.slice a4 vs.length c4,.slice a5 us.length c5,.slice a6 ns.length c6]] w fun e w'=>
   ∃ a4' c4' a5' c5' a6' c6',e=.returned (.agg #[.string nm,.int .i64 ln,.int .i64 pr,.bool rs,.slice a4' vs.length c4',.slice a5' us.length c5',.slice a6' ns.length c6'])/\StrsAt w' (New w.heap.size w') a4' vs/\UpsAt w' (New w.heap.size w') a5' us/\NodesAt w' (New w.heap.size w') a6' ns/\BelowS w.heap.size w w':=by
 go_enter Tryz.func33,Tryz.ntmps33;go_wp2_with fail
 refine(toStringS_softf w _ h4 hB hl4 ?hW).mono ?_
 case hW=>repeat (first | refine BelowS.alloc ?_ (by simp<;>omega) () | refine BelowS.setCell ?_ (by simp<;>omega) _ | exact BelowS.refl _ _)
 rintro e w1 ⟨a4',c4',rfl,hI4,hb1⟩;have hbw1:BelowS w.heap.size w w1:=by
  refine BelowS.trans (b:=_) ?_ (hb1.mono (by simp<;>omega))
  repeat (first | refine BelowS.alloc ?_ (by simp<;>omega) () | refine BelowS.setCell ?_ (by simp<;>omega) _ | exact BelowS.refl _ _)
 obtain⟨hc,hf⟩:=bcellS hb1;have hz:w.heap.size+1+1+1<=w1.heap.size:=by have:=hb1.size;simpa using this
 have hz0:w.heap.size<w1.heap.size:=by omega
 have hz1:w.heap.size+1<w1.heap.size:=by omega
 have hz2:w.heap.size+1+1<w1.heap.size:=by omega
 replace hI4:StrsAt w1 (New (w.heap.size+3) w1) a4' vs:=hI4.mono (fun b h=>⟨by have:=h.1;simp at this;omega,h.2⟩)
 clear hb1;go_wp2_with fail
 refine(toUpS_softf w _ h5 hB hl5 ?hW2).mono ?_
 case hW2=>repeat (first | refine BelowS.setCell ?_ (by simp<;>omega) _ | exact hbw1)
 rintro e w2 ⟨a5',c5',rfl,hI5,hb2⟩;obtain⟨hc2,hf2⟩:=bcellS hb2;have hy:w1.heap.size<=w2.heap.size:=by have:=hb2.size;simpa using this
 have hy0:w.heap.size<w2.heap.size:=by omega
 have hy1:w.heap.size+1<w2.heap.size:=by omega
 have hy2:w.heap.size+1+1<w2.heap.size:=by omega
 have hbw2:BelowS w.heap.size w w2:=by
  refine BelowS.trans (b:=_) ?_ (hb2.mono (by simp<;>omega))
  repeat (first | refine BelowS.setCell ?_ (by simp<;>omega) _ | exact hbw1)
 replace hI5:UpsAt w2 (New (w.heap.size+3) w2) a5' us:=hI5.mono (fun b h=>⟨by have:=h.1;simp at this;omega,h.2⟩)
 replace hI4:StrsAt w2 (New (w.heap.size+3) w1) a4' vs:=by
  refine hI4.same (Same.below (Same.setCell Same.refl ?_ _) hb2.1 (fun b h=>by have:=h.2;simpa using this));intro h;have:=h.1;simp at this;omega
 clear hb2;go_wp2_with fail
 refine(toNodeS_softf w _ h6 hB hl6 ?hW3).mono ?_
 case hW3=>repeat (first | refine BelowS.setCell ?_ (by simp<;>omega) _ | exact hbw2)
 rintro e w3 ⟨a6',c6',rfl,hI6,hb3⟩;obtain⟨hc3,hf3⟩:=bcellS hb3;have hv:w2.heap.size<=w3.heap.size:=by have:=hb3.size;simpa using this
 have hv0:w.heap.size<w3.heap.size:=by omega
 have hv1:w.heap.size+1<w3.heap.size:=by omega
 have hv2:w.heap.size+1+1<w3.heap.size:=by omega
 have hbw3:BelowS w.heap.size w w3:=by
  refine BelowS.trans (b:=_) ?_ (hb3.mono (by simp<;>omega))
  repeat (first | refine BelowS.setCell ?_ (by simp<;>omega) _ | exact hbw2)
 replace hI6:NodesAt w3 (New (w.heap.size+3) w3) a6' ns:=hI6.mono (fun b h=>⟨by have:=h.1;simp at this;omega,h.2⟩)
 replace hI5:UpsAt w3 (New (w.heap.size+3) w2) a5' us:=by
  refine hI5.same (Same.below (Same.setCell Same.refl ?_ _) hb3.1 (fun b h=>by have:=h.2;simpa using this));intro h;have:=h.1;simp at this;omega
 replace hI4:StrsAt w3 (New (w.heap.size+3) w1) a4' vs:=by
  refine hI4.same (Same.below (Same.setCell Same.refl ?_ _) hb3.1 (fun b h=>by have:=h.2;simp;omega));intro h;have:=h.1;simp at this;omega
 clear hb3;have p1:∀ W:World,¬New (w.heap.size+3) W (w.heap.size+1):=fun W h=>by have:=h.1;omega
 have p2:∀ W:World,¬New (w.heap.size+3) W (w.heap.size+1+1):=fun W h=>by have:=h.1;omega
 have b1:w.heap.size<=w.heap.size+1:=by omega
 have b2:w.heap.size<=w.heap.size+1+1:=by omega
 have m1:∀ V:World,V.heap.size<=w3.heap.size->∀ W:World,W.heap.size=w3.heap.size->∀ b,New (w.heap.size+3) V b->New w.heap.size W b:=fun V hV W e b h=>⟨by have:=h.1;omega,by have:=h.2;omega⟩;have q1:w1.heap.size<=w3.heap.size:=by omega
 have M:=hide (And.intro (And.intro p1 p2) (And.intro (And.intro b1 b2) (And.intro m1 (And.intro q1 hv))));clear p1 p2 b1 b2 m1 q1;go_wp2_with fail
 obtain⟨⟨p1,p2⟩,⟨b1,b2⟩,m1,q1,q2⟩:=unhide M;refine bodyPost_ret (v:=.agg #[.string nm,.int .i64 ln,.int .i64 pr,.bool rs,.slice a4' vs.length c4',.slice a5' us.length c5',.slice a6' ns.length c6']) (by simp[results,Tryz.results33,go_sem,hc,hc2,hc3,hz1,hy1]) rfl ⟨a4',c4',a5',c5',a6',c6',rfl,?_,?_,?_,?_⟩
 ·refine(hI4.same ?_).mono (m1 _ q1 _ (by simp))
  iterate 7 refine Same.setCell ?_ (p1 _) _
  refine Same.setCell ?_ (p2 _) _;exact Same.refl
 ·refine(hI5.same ?_).mono (m1 _ q2 _ (by simp))
  iterate 7 refine Same.setCell ?_ (p1 _) _
  refine Same.setCell ?_ (p2 _) _;exact Same.refl
 ·refine(hI6.same ?_).mono (m1 _ (Nat.le_refl _) _ (by simp))
  iterate 7 refine Same.setCell ?_ (p1 _) _
  refine Same.setCell ?_ (p2 _) _;exact Same.refl
 ·iterate 7 refine BelowS.setCell ?_ b1 _
  refine BelowS.setCell ?_ b2 _;exact hbw3
theorem toFnS_soft (a:Option Addr)(l:List FnD)(c:Nat)(S:Nat->Prop)(w:World)(hs:FnsAt w S a l)(hB:∀ b,S b->b<w.heap.size)(hl:tFns l<=1048576) :
  Calls Tryz.prog 16 #[.slice a l.length c] w fun e w'=>∃ a' c',e=.returned (.slice a' l.length c')/\FnsAt w' (New w.heap.size w') a' l/\BelowS w.heap.size w w':=by
 have hn:=hs.1;have hll:l.length<=1048576:=by unfold tFns at hl;omega
 have hel:∀ k,k<l.length->(l[k]?.getD FnD.z).vars.length<=1048576/\(l[k]?.getD FnD.z).ups.length<=1048576/\tNodes (l[k]?.getD FnD.z).nodes<=1048576:=fun k hk=>by
  have h1:=sumTo_succ tFn l k FnD.z hk;have h2:=sumTo_le tFn l (k+1);unfold tFns at hl;generalize l[k]?.getD FnD.z=fd at *;have h3:tFn fd=fd.name.size+tStrs fd.vars+fd.ups.length+tNodes fd.nodes:=rfl;have h4:tStrs fd.vars=fd.vars.length+sumAll ByteArray.size fd.vars:=rfl;refine⟨?_,?_,?_⟩<;>omega
 have HEL:=hide hel;clear hel hl;have hmk:∀ w:World,(Instr.makeSlice 28 (.int .i64 (l.length:Int)) (.int .i64 (l.length:Int))).run Tryz.prog w=.ok (.slice (some ⟨w.heap.size,0,none⟩) l.length l.length) (w.alloc (.cells (madeCells fnZ (l.length * 7)) 59)):=
  run_make_wide (P:=Tryz.prog) 28 59 _ 7 112 Tryz.underlying28 info_fn .i64 .i64 l.length (by omega) hn
 go_enter Tryz.func16,Tryz.ntmps16;go_wp2_with fail
 clear hmk;go_loopw [4] (fun i wr=>∃(k:Nat) (R:Nat->FnR),k<=l.length/\i=.int .i64 k/\BelowS w.heap.size w wr /\
   wr.rowIs w.heap.size 59 (l.length * 7) (fun j=>if j / 7<k then fnCell (l[j / 7]?.getD FnD.z) (R (j / 7)) (j % 7)else fnZ[j % 7]!) /\
   (∀ i,i<k->StrsAt wr (New (w.heap.size+1) wr) (R i).va (l[i]?.getD FnD.z).vars/\UpsAt wr (New (w.heap.size+1) wr) (R i).ua (l[i]?.getD FnD.z).ups/\NodesAt wr (New (w.heap.size+1) wr) (R i).na (l[i]?.getD FnD.z).nodes)) (fun i _=>l.length-(intOf i).toNat)
 case atStart=>exact⟨0,fun _=>⟨none,0,none,0,none,0⟩,Nat.zero_le _,rfl,(BelowS.refl _ _).alloc (Nat.le_refl _) (),(World.rowIs_wide _ _ _ _).congr (fun i hi=>by simp[fnZ]),fun i hi=>absurd hi (Nat.not_lt_zero _)⟩
 case round=>
  obtain⟨k,R,hk,rfl,hbw,hrow,hR⟩:=hrel;have HR:=hide hR;clear hR;by_cases hlt:k<l.length
  ·obtain⟨b,off,rfl,hb,hcc⟩:=(hs.keep hbw.1 hB).2 (by omega);have N:=hcc k hlt;obtain⟨hl1,hl2,hl3⟩:=unhide HEL k hlt;clear hcc;generalize hx:l[k]?.getD FnD.z=nd at *;have HX:=hide hx;clear hx;obtain⟨a4,c4,h4,H4⟩:=N.vars;obtain⟨a5,c5,h5,H5⟩:=N.ups;obtain⟨a6,c6,h6,H6⟩:=N.nodes;have c0:=N.name;have c1:=N.line;have c2:=N.params;have c3:=N.rest;have hBr:∀ b,S b->b<wr.heap.size:=fun b h=>Nat.lt_of_lt_of_le (hB b h) hbw.size;go_wp2_with fail
   refine(toFn_soft _ _ _ _ _ _ _ _ _ _ _ _ _ S _ H4 H5 H6 hBr hl1 hl2 hl3).mono ?_;rintro e w' ⟨a4',c4',a5',c5',a6',c6',rfl,hI4,hI5,hI6,hb'⟩;have hrow':=hrow.of_block (hb'.block _ hrow.lt);have hf0:=hrow'.frozen (k * 7);have hf1:=hrow'.frozen (k * 7+1);have hf2:=hrow'.frozen (k * 7+2);have hf3:=hrow'.frozen (k * 7+3);have hf4:=hrow'.frozen (k * 7+4);have hf5:=hrow'.frozen (k * 7+5);have hf6:=hrow'.frozen (k * 7+6);have hg0:=hrow'.cell (i:=k * 7) (by omega);have hg1:=hrow'.cell (i:=k * 7+1) (by omega);have hg2:=hrow'.cell (i:=k * 7+2) (by omega);have hg3:=hrow'.cell (i:=k * 7+3) (by omega);have hg4:=hrow'.cell (i:=k * 7+4) (by omega);have hg5:=hrow'.cell (i:=k * 7+5) (by omega);have hg6:=hrow'.cell (i:=k * 7+6) (by omega);clear c0 c1 c2 c3 h4 h5 h6;go_wp2_with fail
   go_roundw
   case rel=>
    clear hg0 hg1 hg2 hg3 hg4 hg5 hg6 hf0 hf1 hf2 hf3 hf4 hf5 hf6;have hG:w.heap.size<wr.heap.size:=hrow.lt;have hx:=unhide HX;refine⟨k+1,fun i=>if i=k then⟨a4',c4',a5',c5',a6',c6'⟩else R i,by omega,by go_num,belowS_put7 (hbw.trans (hb'.mono hbw.size)) _ _ (Nat.le_refl _) _ _ _ _ _ _ _,(rowIs_put7 hrow' k _ _ _ _ _ _ _).congr fun j hj=>?_,fun i hi=>?_⟩
    ·by_cases e:j / 7=k
     ·have e2:j / 7<k+1:=by omega
      simp only[e,if_true,hx,fnCell,Nat.lt_succ_self]
     ·have e2:(j / 7<k+1)=(j / 7<k):=by apply propext;omega
      simp only[e,if_false,e2]
    ·have hm:∀ W:World,W.heap.size=w'.heap.size->∀ b,New (w.heap.size+1) wr b->New (w.heap.size+1) W b:=fun W e b h=>⟨h.1,by have:=h.2;have:=hb'.size;omega⟩;have hm':∀ W:World,W.heap.size=w'.heap.size->∀ b,New wr.heap.size w' b->New (w.heap.size+1) W b:=fun W e b h=>⟨by have:=h.1;omega,by have:=h.2;omega⟩;have hng:¬New (w.heap.size+1) wr w.heap.size:=fun h=>by have:=h.1;omega
     have hng':¬New wr.heap.size w' w.heap.size:=fun h=>by have:=h.1;omega
     by_cases e:i=k
     ·subst e;simp only[if_true,hx];exact⟨(hI4.same (same_put7 Same.refl _ _ hng' _ _ _ _ _ _ _)).mono (hm' _ (size_put7 _ _ _ _ _ _ _ _ _ _)),(hI5.same (same_put7 Same.refl _ _ hng' _ _ _ _ _ _ _)).mono (hm' _ (size_put7 _ _ _ _ _ _ _ _ _ _)),(hI6.same (same_put7 Same.refl _ _ hng' _ _ _ _ _ _ _)).mono (hm' _ (size_put7 _ _ _ _ _ _ _ _ _ _))⟩
     ·simp only[e,if_false];obtain⟨h1,h2,h3⟩:=unhide HR i (by omega);have hsame:Same (New (w.heap.size+1) wr) wr w':=.of_below hb'.1 (fun b h=>h.2);exact⟨(h1.same (same_put7 hsame _ _ hng _ _ _ _ _ _ _)).mono (hm _ (size_put7 _ _ _ _ _ _ _ _ _ _)),(h2.same (same_put7 hsame _ _ hng _ _ _ _ _ _ _)).mono (hm _ (size_put7 _ _ _ _ _ _ _ _ _ _)),(h3.same (same_put7 hsame _ _ hng _ _ _ _ _ _ _)).mono (hm _ (size_put7 _ _ _ _ _ _ _ _ _ _))⟩
   case measure=>simp[intOf];omega
  ·have HK:Hid (k=l.length):=by show _=_;omega
   go_wp2_with fail
   go_ret;refine⟨_,_,rfl,?_,hbw⟩;have hkl:=HK.out;subst hkl;refine fns_of_row R hn ⟨Nat.le_refl _,hrow.lt⟩ hrow fun i hi=>?_;obtain⟨h1,h2,h3⟩:=unhide HR i hi;obtain⟨b,off,_,_,hcc⟩:=hs.2 (by omega);exact⟨(hcc i hi).names,h1.mono (fun b h=>⟨by have:=h.1;omega,h.2⟩),h2.mono (fun b h=>⟨by have:=h.1;omega,h.2⟩),h3.mono (fun b h=>⟨by have:=h.1;omega,h.2⟩)⟩
theorem toUnit_soft (a:Option Addr)(l:List FnD)(c:Nat)(S:Nat->Prop)(w:World)(hs:FnsAt w S a l)(hB:∀ b,S b->b<w.heap.size)(hl:tFns l<=1048576) :
  Calls Tryz.prog 6 #[.agg #[.slice a l.length c]] w fun e w'=>∃ a' c',e=.returned (.agg #[.slice a' l.length c'])/\FnsAt w' (New w.heap.size w') a' l/\BelowS w.heap.size w w':=by
 go_enter Tryz.func6,Tryz.ntmps6;go_wp2_with fail
 have hbA:BelowS w.heap.size w (((w.alloc (.cells #[.slice a l.length c] 24)).alloc (.cells #[.slice none 0 0] 30)).alloc (.cells #[.slice none 0 0] 30)):=by
  repeat (first | refine BelowS.alloc ?_ (by simp<;>omega) () | exact BelowS.refl _ _)
 refine(toFnS_soft _ _ _ S _ (hs.keep hbA.1 hB) (fun b h=>Nat.lt_of_lt_of_le (hB b h) hbA.size) hl).mono ?_;rintro e w1 ⟨a',c',rfl,hI,hb1⟩;have hbw1:BelowS w.heap.size w w1:=hbA.trans (hb1.mono hbA.size);obtain⟨hc,hf⟩:=bcellS hb1;have hz:w.heap.size+1+1+1<=w1.heap.size:=by have:=hb1.size;simpa using this
 have hz0:w.heap.size<w1.heap.size:=by omega
 have hz1:w.heap.size+1<w1.heap.size:=by omega
 have hz2:w.heap.size+1+1<w1.heap.size:=by omega
 replace hI:FnsAt w1 (New (w.heap.size+3) w1) a' l:=hI.mono (fun b h=>⟨by have:=h.1;simp at this;omega,h.2⟩)
 clear hb1;have p1:∀ W:World,¬New (w.heap.size+3) W (w.heap.size+1):=fun W h=>by have:=h.1;omega
 have p2:∀ W:World,¬New (w.heap.size+3) W (w.heap.size+1+1):=fun W h=>by have:=h.1;omega
 have b1:w.heap.size<=w.heap.size+1:=by omega
 have b2:w.heap.size<=w.heap.size+1+1:=by omega
 have m1:∀ W:World,W.heap.size=w1.heap.size->∀ b,New (w.heap.size+3) w1 b->New w.heap.size W b:=fun W e b h=>⟨by have:=h.1;omega,by have:=h.2;omega⟩;have M:=hide (And.intro (And.intro p1 p2) (And.intro (And.intro b1 b2) m1));clear p1 p2 b1 b2 m1;go_wp2_with fail
 obtain⟨⟨p1,p2⟩,⟨b1,b2⟩,m1⟩:=unhide M;refine bodyPost_ret (v:=.agg #[.slice a' l.length c']) (by simp[results,Tryz.results6,go_sem,hc]) rfl ⟨a',c',rfl,?_,?_⟩
 ·refine(hI.same ?_).mono (m1 _ (by simp));refine Same.setCell ?_ (p1 _) _;refine Same.setCell ?_ (p2 _) _;exact Same.refl
 ·refine BelowS.setCell ?_ b1 _;refine BelowS.setCell ?_ b2 _;exact hbw1
end Go.Proofs.YtomcjennjcpdnaaGreatDoor
namespace Go.Proofs.YtomcjennjcpdnaaGreatDoor
set_option maxRecDepth 100000
set_option maxHeartbeats 4000000
open Go.RowKit
def RowI (w:World)(a:Option Addr)(n:Nat)(f:Nat->Int):Prop:=0<n->∃ b,a=some ⟨b,0,none⟩/\w.rowIs b 3 n (fun j=>.int .i64 (f j))
def AtB (a:Option Addr)(b:Nat):Prop:=∃ off,a=some ⟨b,off,none⟩
section
variable {w w':World} {a:Option Addr} {n:Nat} {f:Nat->Int}
theorem RowI.same (h:RowI w a n f)(hb:∀ b,AtB a b->w'.heap[b]? = w.heap[b]?):RowI w' a n f:=fun hn=>by
 obtain⟨b,rfl,hr⟩:=h hn;exact⟨b,rfl,hr.of_block (hb b ⟨0,rfl⟩)⟩
theorem RowI.below (h:RowI w a n f)(hb:Below w.heap.size w w'):RowI w' a n f:=fun hn=>by
 obtain⟨b,rfl,hr⟩:=h hn;exact⟨b,rfl,hr.of_block (hb.block b hr.lt)⟩
theorem RowI.congr {g:Nat->Int}(h:RowI w a n f)(e:∀ i,i<n->f i=g i):RowI w a n g:=fun hn=>by
 obtain⟨b,rfl,hr⟩:=h hn;exact⟨b,rfl,hr.congr (fun i hi=>by rw[e i hi])⟩
end
theorem markIntS_row (a:Option Addr)(n c:Nat)(k:Int)(f:Nat->Int)(w:World)(hs:RowI w a n f)(h0:0<=k)(hk:k+n<=1000000000000) :
  Calls Tryz.prog 11 #[.slice a n c,.int .i64 k] w fun e w'=>e=.returned (.int .i64 (k+n))/\RowI w' a n (fun j=>(k+(j:Int)))/\Mk (AtB a) w w':=by
 by_cases hn:0<n
 case neg=>
  have hn0:n=0:=by omega
  subst hn0;go_enter Tryz.func11,Tryz.ntmps11;go_wp2_with fail
  go_loopw [1,5] (fun q i wr=>q=.int .i64 k/\i=.int .i64 0/\wr=w) (fun _ _ _=>0)
  case atStart=>exact⟨rfl,rfl,rfl⟩
  case round=>
   obtain⟨rfl,rfl,rfl⟩:=hrel;go_wp2_with fail
   go_ret;exact⟨by simp,fun h=>absurd h (by omega),Mk.refl _ _⟩
 obtain⟨b,rfl,hr⟩:=hs hn;go_enter Tryz.func11,Tryz.ntmps11;go_wp2_with fail
 go_loopw [1,5] (fun q i wr=>∃(j:Nat),j<=n/\q=.int .i64 (k+j)/\i=.int .i64 j/\Mk (AtB (some ⟨b,0,none⟩)) w wr/\wr.rowIs b 3 n (fun i=>if i<j then .int .i64 (k+i)else .int .i64 (f i))) (fun _ i _=>n-(intOf i).toNat)
 case atStart=>exact⟨0,Nat.zero_le _,by simp,rfl,Mk.refl _ _,hr.congr (fun i hi=>by simp)⟩
 case round=>
  obtain⟨j,hj,rfl,rfl,hm,hrow⟩:=hrel;by_cases hlt:j<n
  ·have hg:=hrow.cell hlt;rw[if_neg (Nat.lt_irrefl _)]at hg;have hf:=hrow.frozen j;go_wp2_with fail
   go_roundw
   case rel=>
    refine⟨j+1,by omega,by go_num,by go_num,hm.trans (Mk.set ⟨0,rfl⟩ hg trivial _ trivial),(hrow.set j _).congr fun i hi=>?_⟩;by_cases e:i=j
    ·subst e;simp
    ·have:(i<j+1)=(i<j):=by apply propext;omega
     simp[e,this]
   case measure=>simp[intOf];omega
  ·have HK:Hid (j=n):=by show _=_;omega
   go_wp2_with fail
   go_ret;have e:=HK.out;subst e;exact⟨rfl,fun _=>⟨b,rfl,hrow.congr (fun i hi=>by simp[hi])⟩,hm⟩
theorem heldIntS_row (a:Option Addr)(n c:Nat)(k:Int)(w:World)(hs:RowI w a n (fun j=>(k+(j:Int))))(h0:0<=k)(hk:k+n<=1000000000000) :
  Calls Tryz.prog 12 #[.slice a n c,.int .i64 k] w fun e w'=>e=.returned (.int .i64 (k+n))/\Below w.heap.size w w':=by
 go_enter Tryz.func12,Tryz.ntmps12;go_wp2_with fail
 go_loopw [1,5] (fun q i wr=>∃(j:Nat),j<=n/\q=.int .i64 (k+j)/\i=.int .i64 j/\Below w.heap.size w wr) (fun _ i _=>n-(intOf i).toNat)
 case atStart=>exact⟨0,Nat.zero_le _,by simp,rfl,Below.refl _ _⟩
 case round=>
  obtain⟨j,hj,rfl,rfl,hb⟩:=hrel;by_cases hlt:j<n
  ·obtain⟨b,rfl,hr⟩:=(hs.below hb) (by omega);have hg:=hr.cell hlt;have hf:=hr.frozen j;clear hr;have hxx:((k+(j:Int)) != (k+(j:Int)))=false:=by simp
   go_wp2_with fail
   go_roundw
   case rel=>exact⟨j+1,by omega,by go_num,by go_num,hb⟩
   case measure=>simp[intOf];omega
  ·have HK:Hid (j=n):=by show _=_;omega
   go_wp2_with fail
   go_ret;rw[HK.out];exact⟨rfl,hb⟩
theorem eqIntS_row (a b:Option Addr)(n ca cb:Nat)(f:Nat->Int)(w:World)(h1:RowI w a n f)(h2:RowI w b n f)(hn:n<=1000000000000) :
  Calls Tryz.prog 8 #[.slice a n ca,.slice b n cb] w fun e w'=>e=.returned (.bool true)/\Below w.heap.size w w':=by
 have hne:((n:Int) != (n:Int))=false:=by simp
 go_enter Tryz.func8,Tryz.ntmps8;go_wp2_with fail
 go_loopw [5] (fun i wr=>∃(k:Nat),k<=n/\i=.int .i64 k/\Below w.heap.size w wr) (fun i _=>n-(intOf i).toNat)
 case atStart=>exact⟨0,Nat.zero_le _,rfl,Below.refl _ _⟩
 case round=>
  obtain⟨k,hk,rfl,hbw⟩:=hrel;by_cases hlt:k<n
  ·obtain⟨b1,rfl,hr1⟩:=(h1.below hbw) (by omega);obtain⟨b2,rfl,hr2⟩:=(h2.below hbw) (by omega);have e1:=hr1.cell hlt;have e2:=hr2.cell hlt;clear hr1 hr2;generalize f k=x at *;have hxx:(x != x)=false:=by simp
   go_wp2_with fail
   go_region
   all_goals (go_wp2_with fail)
   all_goals go_roundw
   all_goals first | (case rel=>exact⟨k+1,by omega,by go_num,hbw.drew⟩) | skip
   all_goals (simp[intOf];omega)
  ·go_wp2_with fail
   go_ret;exact⟨rfl,hbw⟩
end Go.Proofs.YtomcjennjcpdnaaGreatDoor
namespace Go.Proofs.YtomcjennjcpdnaaGreatDoor
set_option maxRecDepth 100000
set_option maxHeartbeats 4000000
open Go.RowKit
def AnsPost (n:Nat)(F:Nat->Int)(w:World)(e:Ending)(w':World):Prop:=
 ∃ a c,e=.returned (.slice a n c)/\RowI w' a n F/\(∀ b,AtB a b->w.heap.size<=b/\b<w'.heap.size)/\Below w.heap.size w w'
def SpecAns (l:List FnD)(f:Int)(n:Nat)(F:Nat->Int):Prop:=
 ∀(a:Option Addr) (c:Nat) (S:Nat->Prop) (w:World),FnsAt w S a l->(∀ b,S b->b<w.heap.size)->Calls Tryz.prog 5 #[.agg #[.slice a l.length c],.int .i64 f] w (AnsPost n F w)
def ImplAns (G:World->Prop)(l:List FnD)(f:Int)(n:Nat)(F:Nat->Int):Prop:=
 ∀(a:Option Addr) (c:Nat) (S:Nat->Prop) (w:World),G w->FnsAt w S a l->(∀ b,S b->b<w.heap.size)->Calls Tryz.prog 7 #[.agg #[.slice a l.length c],.int .i64 f] w (AnsPost n F w)
structure LW (w:World)(a:Option Addr)(nl c:Nat)(aw:Option Addr)(n:Nat)(F:Nat->Int)(W:World):Prop where
 old:Below w.heap.size w W
 box:W.cell? ⟨w.heap.size,0,none⟩=some (.slice a nl c)
 row:RowI W aw n F
 at_:∀ b,AtB aw b->w.heap.size<b/\b<W.heap.size
theorem LW.lt {w:World}{a:Option Addr}{nl c:Nat}{aw:Option Addr}{n:Nat}{F:Nat->Int}{W:World}(h:LW w a nl c aw n F W):w.heap.size<W.heap.size:=World.block_lt_of_cell? _ _ h.box
theorem LW.next {w:World}{a:Option Addr}{nl c:Nat}{aw:Option Addr}{n:Nat}{F:Nat->Int}{W W':World}(h:LW w a nl c aw n F W)(hb:Below W.heap.size W W'):LW w a nl c aw n F W':=
 ⟨h.old.trans (hb.mono h.old.size),(hb.cell (p:=⟨w.heap.size,0,none⟩) h.lt).trans h.box,h.row.below hb,fun b hb'=>⟨(h.at_ b hb').1,Nat.lt_of_lt_of_le (h.at_ b hb').2 hb.size⟩⟩
theorem LW.marked {w:World}{a:Option Addr}{nl c:Nat}{aw:Option Addr}{n:Nat}{F:Nat->Int}{W W':World}{S:Nat->Prop}(h:LW w a nl c aw n F W)(hm:Mk S W W')(hS:∀ b,S b->w.heap.size<b)(hA:∀ b,AtB aw b->¬S b):LW w a nl c aw n F W' where
 old:=h.old.trans (hm.below (fun b hb=>Nat.le_of_lt (hS b hb)) h.old.size)
 box:=(World.cell?_of_block (a:=⟨w.heap.size,0,none⟩) (hm.block _ h.lt (fun hs=>Nat.lt_irrefl _ (hS _ hs)))).trans h.box
 row:=h.row.same (fun b hb=>hm.block b (h.at_ b hb).2 (hA b hb))
 at_:=fun b hb=>⟨(h.at_ b hb).1,Nat.lt_of_lt_of_le (h.at_ b hb).2 hm.size⟩
theorem RowI.marked {w w':World}{a:Option Addr}{n:Nat}{F:Nat->Int}{S:Nat->Prop}(h:RowI w a n F)(hm:Mk S w w')(hA:∀ b,AtB a b->b<w.heap.size/\¬S b):RowI w' a n F:=h.same (fun b hb=>hm.block b (hA b hb).1 (hA b hb).2)
theorem toUnit_soft_from {a:Option Addr}{l:List FnD}{c:Nat}{S:Nat->Prop}(w W:World)(hs:FnsAt w S a l)(hB:∀ b,S b->b<w.heap.size)(hl:tFns l<=1048576)(hW:Below w.heap.size w W) :
  Calls Tryz.prog 6 #[.agg #[.slice a l.length c]] W fun e w'=>∃ a' c',e=.returned (.agg #[.slice a' l.length c'])/\FnsAt w' (New W.heap.size w') a' l/\BelowS W.heap.size W w':=
 toUnit_soft a l c S W (hs.keep hW hB) (fun b h=>Nat.lt_of_lt_of_le (hB b h) hW.size) hl
theorem law_homes (G:World->Prop)(hG:∀ w w',Below w.heap.size w w'->G w->G w')(a:Option Addr)(l:List FnD)(c:Nat)(f:Int)(n:Nat)(F:Nat->Int)(hn:n<=1000000)(hsp:tFns l<=1048576->SpecAns l f n F)(him:tFns l<=1048576->ImplAns G l f n F)(S:Nat->Prop)(w:World)(g0:G w)(hs:FnsAt w S a l)(hB:∀ b,S b->b<w.heap.size) :
  Calls Tryz.prog 3 #[.agg #[.slice a l.length c],.int .i64 f] w fun e w'=>e=.returned (.bool true)/\Below w.heap.size w w':=by
 have hbA:∀ o,Below w.heap.size w (w.alloc o):=fun o=>(Below.refl _ _).alloc (Nat.le_refl _) o;have HS:=hide hs;have HB:=hide hB;have HG:=hide hG;have G0:=hide g0;have FN:Hid (∀ W:World,Below w.heap.size w W->FnsAt W S a l/\∀ b,S b->b<W.heap.size):=fun W hW=>⟨hs.keep hW hB,fun b h=>Nat.lt_of_lt_of_le (hB b h) hW.size⟩;have HBA:=hide hbA;have HSP:=hide hsp;have HIM:=hide him;clear hs hB hG g0 hbA hsp him;by_cases q:(1048576:Int)<tFns l
 ·have B1:Hid (bud 1048576 (tFns l)=-1):=bud_no q;go_enter Tryz.func3,Tryz.ntmps3;go_wp2_with fail
  refine(szUnit_any a l c S _ (unhide FN _ (unhide HBA _)).1 (unhide FN _ (unhide HBA _)).2).mono ?_;rintro e w1 ⟨rfl,hb1⟩;rw[B1.out];go_wp2_with fail
  go_ret;exact⟨rfl,(unhide HBA _).trans (hb1.mono (unhide HBA _).size)⟩
 have hl:tFns l<=1048576:=by omega
 have B1:Hid (bud 1048576 (tFns l)=1048576-tFns l):=bud_yes (by omega);have hle:(tFns l:Int)<=1048576:=by omega
 go_enter Tryz.func3,Tryz.ntmps3;go_wp2_with fail
 refine(szUnit_any a l c S _ (unhide FN _ (unhide HBA _)).1 (unhide FN _ (unhide HBA _)).2).mono ?_;rintro e w1 ⟨rfl,hb1⟩;rw[B1.out];have hw1:Below w.heap.size w w1:=(unhide HBA _).trans (hb1.mono (unhide HBA _).size);have v1:w1.cell? ⟨w.heap.size,0,none⟩=some (.slice a l.length c):=by rw[hb1.cell (p:=⟨w.heap.size,0,none⟩) (by simp)];simp[go_sem]
 have s1:w.heap.size+1<=w1.heap.size:=by have:=hb1.size;simpa using this
 have s1':w.heap.size<w1.heap.size:=by omega
 clear hb1;go_wp2_with fail
 refine(toUnit_from w1 _ (unhide FN _ hw1).1 (unhide FN _ hw1).2 hl (Below.refl _ _)).mono ?_;rintro e w2 ⟨a2,c2,rfl,hF2,hb2⟩;have hw2:Below w.heap.size w w2:=hw1.trans (hb2.mono hw1.size);have v2:w2.cell? ⟨w.heap.size,0,none⟩=some (.slice a l.length c):=(hb2.cell (p:=⟨w.heap.size,0,none⟩) s1').trans v1;have s2:=hb2.size;clear hb2 v1;go_wp2_with fail
 refine(unhide HSP hl a2 c2 _ w2 hF2 (fun b h=>h.2)).mono ?_;rintro e w3 ⟨aw,cw,rfl,hr3,ha3,hb3⟩;have L3:LW w a l.length c aw n F w3:=⟨hw2.trans (hb3.mono hw2.size),(hb3.cell (p:=⟨w.heap.size,0,none⟩) (by show w.heap.size<w2.heap.size;omega)).trans v2,hr3,fun b hb=>⟨by have:=(ha3 b hb).1;omega,(ha3 b hb).2⟩⟩;have v3:=L3.box;have s3:=L3.lt;have H3:=hide L3;clear hb3 v2 hF2 hr3 ha3 hw1 hw2 L3 s2 s1 s1';go_wp2_with fail
 refine(toUnit_soft_from w _ (unhide HS) (unhide HB) hl (unhide H3).old).mono ?_;rintro e w4 ⟨a4,c4,rfl,hF4,hb4⟩;have L4:=(unhide H3).next hb4.1;have hso4:SoftFrom w3.heap.size w4:=hb4.soft;have s4:w3.heap.size<=w4.heap.size:=hb4.size;have A4:=hide (fun b (hb:AtB aw b)=>(unhide H3).at_ b hb);have HF4:=hide hF4;have HSO:=hide hso4;have H4:=hide L4;have s4':w.heap.size<w4.heap.size:=by omega
 clear hF4 hso4 hb4 v3;go_wp2_with fail
 refine(unhide HIM hl a4 c4 _ _ (unhide HG _ _ ((unhide H4).old.alloc (unhide H4).old.size _) (unhide G0)) ((unhide HF4).keep (B:=w4.heap.size) ((Below.refl _ _).alloc (Nat.le_refl _) _) (fun b h=>h.2)) (fun b h=>by have:=h.2;simp;omega)).mono ?_;rintro e w5 ⟨ag,cg,rfl,hr5,ha5,hb5⟩;have hA4:Below w4.heap.size w4 w5:=((Below.refl _ _).alloc (Nat.le_refl _) _).trans (hb5.mono (by simp));have s5:w4.heap.size+1<=w5.heap.size:=by have:=hb5.size;simpa using this
 have L5:=(unhide H4).next hA4;have x5:w5.cell? ⟨w4.heap.size,0,none⟩=some (.slice a4 l.length c4):=by rw[hb5.cell (p:=⟨w4.heap.size,0,none⟩) (by simp)];simp[go_sem]
 have HF5:=hide ((unhide HF4).keep hA4 (fun b h=>h.2));have AG:Hid (∀ b,AtB ag b->w4.heap.size<b/\b<w5.heap.size):=fun b hb=>⟨by have:=(ha5 b hb).1;simp at this;omega,(ha5 b hb).2⟩;have H5:=hide L5;have R5:=hide hr5;clear hb5 ha5 L5 hr5 L4;go_wp2_with fail
 refine(eqIntS_row _ _ _ _ _ F _ (unhide R5) (unhide H5).row (by omega)).mono ?_;rintro e w6 ⟨rfl,hb6⟩;have L6:=(unhide H5).next hb6;have x6:w6.cell? ⟨w4.heap.size,0,none⟩=some (.slice a4 l.length c4):=(hb6.cell (p:=⟨w4.heap.size,0,none⟩) s5).trans x5;have v6:=L6.box;have s6:=hb6.size;have R6:=hide ((unhide R5).below hb6);have HF6:=hide ((unhide HF5).keep (B:=w4.heap.size) (hb6.mono (by omega)) (fun b h=>h.2));have HSO6:Hid (∀ b,New w3.heap.size w4 b->∀ o,w6.frozen? ⟨b,o,none⟩=false):=fun b hb o=>by
  rw[hb6.frozen (p:=⟨b,o,none⟩) (by have:=hb.2;show b<w5.heap.size;omega),hA4.frozen (p:=⟨b,o,none⟩) hb.2];exact unhide HSO b hb.1 o
 have H6:=hide L6;clear x5 hb6 hA4 L6 H5 R5 HF5 HF4;have TU:Hid (Calls Tryz.prog 6 #[.agg #[.slice a l.length c]] w6.drew fun e w'=>∃ a' c',e=.returned (.agg #[.slice a' l.length c'])/\FnsAt w' (New w6.heap.size w') a' l/\Below w6.heap.size w6.drew w'):=toUnit_from w w6.drew (unhide HS) (unhide HB) hl (unhide H6).old.drew;have EU:Hid (∀(w7:World) (a7:Option Addr) (c7:Nat),FnsAt w7 (New w6.heap.size w7) a7 l->Below w6.heap.size w6.drew w7->Calls Tryz.prog 9 #[.agg #[.slice a4 l.length c4],.agg #[.slice a7 l.length c7]] w7 fun e w'=>e=.returned (.bool true)/\Below w7.heap.size w7 w'):=fun w7 a7 c7 h7 hb7=>
  eqUnit_from (S:=fun b=>b<w7.heap.size) w7 (((unhide HF6).keep (B:=w6.heap.size) (w':=w7) ⟨hb7.os,hb7.tape,hb7.output,hb7.size,hb7.block⟩ (fun b h=>by have:=h.2;omega)).mono (fun b h=>by have:=h.2;have:=hb7.size;simp at this;omega)) (h7.mono (fun b h=>h.2)) (fun b h=>h)
 have CL:Hid (∀ w7,Below w6.heap.size w6.drew w7->w7.cell? ⟨w.heap.size,0,none⟩=some (.slice a l.length c)/\w7.cell? ⟨w4.heap.size,0,none⟩=some (.slice a4 l.length c4)):=fun w7 h7=>
  ⟨(h7.cell (p:=⟨w.heap.size,0,none⟩) (by show w.heap.size<w6.heap.size;omega)).trans v6,(h7.cell (p:=⟨w4.heap.size,0,none⟩) (by show w4.heap.size<w6.heap.size;omega)).trans x6⟩
 have s6a:w.heap.size<w6.heap.size:=by omega
 have s6b:w4.heap.size<w6.heap.size:=by omega
 go_wp2_with fail
 go_region_held3 (fun w'=>w'.cell? ⟨w.heap.size,0,none⟩=some (.slice a l.length c)/\w'.cell? ⟨w4.heap.size,0,none⟩=some (.slice a4 l.length c4)) (simp[go_sem, *])
  (first
   | (go_at_call 6;refine(unhide TU).mono ?_;rintro e w7 ⟨a7,c7,rfl,hF7,hb7⟩;obtain⟨v7,x7⟩:=unhide CL w7 hb7)
   | (go_at_call 9;refine(unhide EU _ _ _ hF7 hb7).mono ?_;rintro e w8 ⟨rfl,hb8⟩;have v8:=(hb8.cell (p:=⟨w.heap.size,0,none⟩) (by have:=hb7.size;simp at this ⊢;omega)).trans v7;have x8:=(hb8.cell (p:=⟨w4.heap.size,0,none⟩) (by have:=hb7.size;simp at this ⊢;omega)).trans x7))
 have hb68:Below w6.heap.size w6 w8:=by
  have h1:Below w6.heap.size w6 w6.drew:=(Below.refl _ _).drew;exact(h1.trans hb7).trans (hb8.mono hb7.size)
 have L8:=(unhide H6).next hb68;have s8:=hb68.size;have HF8:=hide ((unhide HF6).keep (B:=w4.heap.size) (hb68.mono (by omega)) (fun b h=>h.2));have R8:=hide ((unhide R6).below hb68);have SO8:Hid (Soft w8 (New w3.heap.size w4)):=fun b hb=>⟨by have:=hb.2;omega,fun o=>by
  rw[hb68.frozen (p:=⟨b,o,none⟩) (by have:=hb.2;show b<w6.heap.size;omega)];exact unhide HSO6 b hb o⟩
 have H8:=hide L8;clear L8 hb68 hb7 hb8 hF7 v7 x7 TU EU CL R6 HF6 H6 x6 v6 HSO6;have hmf:Hid (1+(sumAll mFn l:Int)<=1000000000):=by have:=mFns_le l;show _<=_;omega
 have hlen:l.length<=tFns l:=by unfold tFns;omega
 have MU:Hid (Calls Tryz.prog 10 #[.agg #[.slice a4 l.length c4],.int .i64 1] w8 fun e w'=>e=.returned (.int .i64 (1+sumAll mFn l))/\Mk (New w3.heap.size w4) w8 w'):=
  markUnit_any a4 l c4 1 _ w8 (fnsM_of (unhide HF8)) (unhide SO8) (by omega) (unhide hmf) (by omega)
 go_wp2_with fail
 refine(unhide MU).mono ?_;rintro e w9 ⟨rfl,m9⟩;have L9:=(unhide H8).marked m9 (fun b hb=>by have:=hb.1;omega) (fun b hb hb'=>by have:=(unhide A4 b hb).2;have:=hb'.1;omega);have R9:=hide ((unhide R8).marked m9 (fun b hb=>⟨by have:=(unhide AG b hb).2;omega,fun hb'=>by have:=(unhide AG b hb).1;have:=hb'.2;omega⟩));have s9:=m9.size;have H9:=hide L9;have hk0:¬(1+(sumAll mFn l:Int)<0):=by omega
 clear L9 m9 H8 R8 HF8 SO8 MU x8 v8;generalize 1+(sumAll mFn l:Int)=kk at *;go_wp2_with fail
 refine(eqIntS_row _ _ _ _ _ F _ (unhide R9) (unhide H9).row (by omega)).mono ?_;rintro e w10 ⟨rfl,hb10⟩;have H10:=hide ((unhide H9).next hb10);have R10:=hide ((unhide R9).below hb10);have s10:=hb10.size;clear hb10 H9 R9;go_wp2_with fail
 refine(markIntS_row ag n cg 1 F w10 (unhide R10) (by omega) (by omega)).mono ?_;rintro e w11 ⟨rfl,hr11,m11⟩;have H11:=hide ((unhide H10).marked m11 (fun b hb=>by have:=(unhide AG b hb).1;omega) (fun b hb hb'=>by have:=(unhide AG b hb').1;have:=(unhide A4 b hb).2;omega));have R11:=hide hr11;have s11:=m11.size;clear hr11 m11 H10 R10;go_wp2_with fail
 refine(heldIntS_row ag n cg 1 w11 (unhide R11) (by omega) (by omega)).mono ?_;rintro e w12 ⟨rfl,hb12⟩;have H12:=hide ((unhide H11).next hb12);have R12:=hide ((unhide R11).below hb12);have v12:=(unhide H12).box;have s12:=hb12.size;have hne:((1+(n:Int)) != (1+(n:Int)))=false:=by simp
 have hk1:¬(1+(n:Int)<0):=by omega
 clear hb12 H11 R11;go_wp2_with fail
 refine(toUnit_from w _ (unhide HS) (unhide HB) hl (unhide H12).old).mono ?_;rintro e w13 ⟨a13,c13,rfl,hF13,hb13⟩;have H13:=hide ((unhide H12).next hb13);have R13:=hide ((unhide R12).below hb13);have HF13:=hide hF13;have s13:=hb13.size;clear hb13 hF13 H12 R12 v12;go_wp2_with fail
 refine(unhide HIM hl a13 c13 _ _ (unhide HG _ _ (unhide H13).old (unhide G0)) (unhide HF13) (fun b h=>h.2)).mono ?_;rintro e w14 ⟨ah,ch,rfl,hr14,_,hb14⟩;have H14:=hide ((unhide H13).next hb14);have R14:=hide ((unhide R13).below hb14);have Q14:=hide hr14;clear hb14 hr14 H13 R13 HF13;go_wp2_with fail
 refine(eqIntS_row _ _ _ _ _ F _ (unhide Q14) (unhide H14).row (by omega)).mono ?_;rintro e w15 ⟨rfl,hb15⟩;have H15:=hide ((unhide H14).next hb15);have R15:=hide ((unhide R14).below hb15);clear hb15 H14 R14 Q14;go_wp2_with fail
 refine(heldIntS_row ag n cg 1 w15 (unhide R15) (by omega) (by omega)).mono ?_;rintro e w16 ⟨rfl,hb16⟩;have H16:=hide ((unhide H15).next hb16);clear hb16;go_wp2_with fail
 go_ret;exact⟨rfl,(unhide H16).old⟩
end Go.Proofs.YtomcjennjcpdnaaGreatDoor

import Derived.Test.YtofcbekoaghikaaGreatDoorPart03
set_option linter.unusedSimpArgs false
set_option linter.unusedVariables false
set_option maxHeartbeats 400000
namespace Go.Proofs.YtofcbekoaghikaaGreatDoor
open Go.RowKit
attribute [local go_sem] run_store_float
def SoftFrom (B:Nat)(w:World):Prop:=∀ b,B<=b->∀ o,w.frozen? ⟨b,o,none⟩=false
def BelowS (B:Nat)(w w':World):Prop:=Below B w w'/\(SoftFrom B w->SoftFrom B w')
theorem SoftFrom.start (w:World):SoftFrom w.heap.size w:=fun b hb o=>by
 have:w.heap[b]? = none:=Array.getElem?_eq_none hb;simp[World.frozen?,this]
section
variable {B:Nat} {w w' w2:World}
theorem BelowS.refl (B:Nat)(w:World):BelowS B w w:=⟨Below.refl _ _,id⟩
theorem BelowS.size (h:BelowS B w w'):w.heap.size<=w'.heap.size:=h.1.size
theorem BelowS.block (h:BelowS B w w'):∀ b,b<B->w'.heap[b]? = w.heap[b]?:=h.1.block
theorem BelowS.trans {B:Nat}{a b c:World}(h:BelowS B a b)(k:BelowS B b c):BelowS B a c:=⟨h.1.trans k.1,fun s=>k.2 (h.2 s)⟩
theorem BelowS.mono {B':Nat}(h:BelowS B w w')(hB:B'<=B):BelowS B' w w':=
 ⟨h.1.mono hB,fun s b hb o=>by
  by_cases e:b<B
  ·have:=h.1.frozen (p:=⟨b,o,none⟩) e;rw[this];exact s b hb o
  ·exact h.2 (fun b' hb'=>s b' (Nat.le_trans hB hb')) b (Nat.le_of_not_lt e) o⟩
theorem BelowS.setCell (h:BelowS B w w'){a:Addr}(ha:B<=a.block)(v:Value):BelowS B w (w'.setCell a v):=
 ⟨h.1.setCell ha v,fun s b hb o=>by rw[World.frozen?_setCell];exact h.2 s b hb o⟩
theorem BelowS.alloc (h:BelowS B w w')(hB:B<=w'.heap.size){c:Array Value}{t:TypeId}(_:Unit):BelowS B w (w'.alloc (.cells c t)):=
 ⟨h.1.alloc hB _,fun s b hb o=>by rw[frozen?_alloc_cells];exact h.2 s b hb o⟩
theorem BelowS.soft (h:BelowS w.heap.size w w'):SoftFrom w.heap.size w':=h.2 (SoftFrom.start w)
end
theorem bcellS {W w1:World}(hb:BelowS W.heap.size W w1):(∀ b o,b<W.heap.size->w1.cell? ⟨b,o,none⟩=W.cell? ⟨b,o,none⟩)/\(∀ b o,b<W.heap.size->w1.frozen? ⟨b,o,none⟩=W.frozen? ⟨b,o,none⟩):=bcell hb.1
theorem belowS_put8 {B:Nat}{w w1:World}(h:BelowS B w w1)(G k:Nat)(hG:B<=G)(v0 v1 v2 v3 v4 v5 v6 v7:Value) :
  BelowS B w ((((((((w1.setCell ⟨G,k * 8,none⟩ v0).setCell ⟨G,k * 8+1,none⟩ v1).setCell ⟨G,k * 8+2,none⟩ v2).setCell ⟨G,k * 8+3,none⟩ v3).setCell ⟨G,k * 8+4,none⟩ v4).setCell ⟨G,k * 8+5,none⟩ v5).setCell ⟨G,k * 8+6,none⟩ v6).setCell ⟨G,k * 8+7,none⟩ v7):=by
 iterate 8 refine BelowS.setCell ?_ hG _
 exact h
theorem belowS_put7 {B:Nat}{w w1:World}(h:BelowS B w w1)(G k:Nat)(hG:B<=G)(v0 v1 v2 v3 v4 v5 v6:Value) :
  BelowS B w (((((((w1.setCell ⟨G,k * 7,none⟩ v0).setCell ⟨G,k * 7+1,none⟩ v1).setCell ⟨G,k * 7+2,none⟩ v2).setCell ⟨G,k * 7+3,none⟩ v3).setCell ⟨G,k * 7+4,none⟩ v4).setCell ⟨G,k * 7+5,none⟩ v5).setCell ⟨G,k * 7+6,none⟩ v6):=by
 iterate 7 refine BelowS.setCell ?_ hG _
 exact h
theorem toIntS_soft (a:Option Addr)(l:List Int)(c:Nat)(S:Nat->Prop)(w:World)(hs:IntsAt w S a l)(hB:∀ b,S b->b<w.heap.size)(hl:l.length<=1048576) :
  Calls Tryz.prog 84 #[.slice a l.length c] w fun e w'=>∃ a' c',e=.returned (.slice a' l.length c')/\IntsAt w' (New w.heap.size w') a' l/\BelowS w.heap.size w w'/\l.length<=c':=by
 have hn:=hs.1;have hmk:=run_make_row' (P:=Tryz.prog) 56 3 (.int .i64 0) 8 Tryz.underlying56 info_int rfl .i64 .i64 l.length (by omega) hn;go_enter Tryz.func84,Tryz.ntmps84;go_wp2_with fail
 clear hmk;go_loopw [4] (fun i wr=>∃(k:Nat),k<=l.length/\i=.int .i64 k/\BelowS w.heap.size w wr/\wr.rowIs w.heap.size 3 l.length (fun j=>if j<k then .int .i64 (l[j]?.getD 0)else .int .i64 0)) (fun i _=>l.length-(intOf i).toNat)
 case atStart=>exact⟨0,Nat.zero_le _,rfl,(BelowS.refl _ _).alloc (Nat.le_refl _) (),(World.rowIs_made _ _ _ _).congr (fun i hi=>by simp)⟩
 case round=>
  obtain⟨k,hk,rfl,hbw,hrow⟩:=hrel;by_cases hlt:k<l.length
  ·obtain⟨b,off,rfl,hb,hcc⟩:=(hs.keep hbw.1 hB).2 (by omega);have hc:=hcc k hlt;have hg:=hrow.cell hlt;have hf:=hrow.frozen k;clear hcc;go_wp2_with fail
   go_roundw
   case rel=>
    refine⟨k+1,by omega,by go_num,hbw.setCell (Nat.le_refl _) _,(hrow.set k _).congr fun i hi=>?_⟩;by_cases e:i=k
    ·subst e;simp[hlt]
    ·have:(i<k+1)=(i<k):=by apply propext;omega
     simp[e,this]
   case measure=>simp[intOf];omega
  ·have HK:Hid (k=l.length):=by show _=_;omega
   go_wp2_with fail
   go_ret;refine⟨_,_,rfl,⟨hn,fun h0=>⟨_,0,rfl,⟨Nat.le_refl _,hrow.lt⟩,fun j hj=>?_⟩⟩,hbw,Nat.le_refl _⟩;have:=hrow.cell hj;rw[HK.out]at this;simpa[hj]using this
theorem toStringS_soft (a:Option Addr)(l:List ByteArray)(c:Nat)(S:Nat->Prop)(w:World)(hs:StrsAt w S a l)(hB:∀ b,S b->b<w.heap.size)(hl:l.length<=1048576) :
  Calls Tryz.prog 44 #[.slice a l.length c] w fun e w'=>∃ a' c',e=.returned (.slice a' l.length c')/\StrsAt w' (New w.heap.size w') a' l/\BelowS w.heap.size w w':=by
 have hn:=hs.1;have hmk:=run_make_row' (P:=Tryz.prog) 46 9 (.string ByteArray.empty) 16 Tryz.underlying46 info_string rfl .i64 .i64 l.length (by omega) hn;go_enter Tryz.func44,Tryz.ntmps44;go_wp2_with fail
 clear hmk;go_loopw [4] (fun i wr=>∃(k:Nat),k<=l.length/\i=.int .i64 k/\BelowS w.heap.size w wr/\wr.rowIs w.heap.size 9 l.length (fun j=>if j<k then .string (l[j]?.getD ByteArray.empty)else .string ByteArray.empty)) (fun i _=>l.length-(intOf i).toNat)
 case atStart=>exact⟨0,Nat.zero_le _,rfl,(BelowS.refl _ _).alloc (Nat.le_refl _) (),(World.rowIs_made _ _ _ _).congr (fun i hi=>by simp)⟩
 case round=>
  obtain⟨k,hk,rfl,hbw,hrow⟩:=hrel;by_cases hlt:k<l.length
  ·obtain⟨b,off,rfl,hb,hcc⟩:=(hs.keep hbw.1 hB).2 (by omega);have hc:=(hcc k hlt).2;have hg:=hrow.cell hlt;have hf:=hrow.frozen k;clear hcc;go_wp2_with fail
   go_roundw
   case rel=>
    refine⟨k+1,by omega,by go_num,hbw.setCell (Nat.le_refl _) _,(hrow.set k _).congr fun i hi=>?_⟩;by_cases e:i=k
    ·subst e;simp[hlt]
    ·have:(i<k+1)=(i<k):=by apply propext;omega
     simp[e,this]
   case measure=>simp[intOf];omega
  ·have HK:Hid (k=l.length):=by show _=_;omega
   go_wp2_with fail
   go_ret;refine⟨_,_,rfl,⟨hn,fun h0=>⟨_,0,rfl,⟨Nat.le_refl _,hrow.lt⟩,fun j hj=>⟨?_,?_⟩⟩⟩,hbw⟩
   ·obtain⟨b,off,_,_,hcc⟩:=hs.2 h0;exact(hcc j hj).1
   ·have:=hrow.cell hj;rw[HK.out]at this;simpa[hj]using this
theorem toUp_soft (x:Bool)(i:Int)(w:World) :
  Calls Tryz.prog 64 #[.agg #[.bool x,.int .i64 i]] w fun e w'=>e=.returned (.agg #[.bool x,.int .i64 i])/\BelowS w.heap.size w w':=by
 go_enter Tryz.func64,Tryz.ntmps64;go_wp2_with fail
 exact bodyPost_ret (v:=.agg #[.bool x,.int .i64 i]) (by simp[results,Tryz.results64,go_sem]) rfl ⟨rfl,by repeat (first | refine BelowS.alloc ?_ (by simp<;>omega) () | exact BelowS.refl _ _)⟩
theorem toUpS_soft (a:Option Addr)(l:List (Bool×Int))(c:Nat)(S:Nat->Prop)(w:World)(hs:UpsAt w S a l)(hB:∀ b,S b->b<w.heap.size)(hl:l.length<=1048576) :
  Calls Tryz.prog 45 #[.slice a l.length c] w fun e w'=>∃ a' c',e=.returned (.slice a' l.length c')/\UpsAt w' (New w.heap.size w') a' l/\BelowS w.heap.size w w':=by
 have hn:=hs.1;have hmk:∀ w:World,(Instr.makeSlice 51 (.int .i64 (l.length:Int)) (.int .i64 (l.length:Int))).run Tryz.prog w=.ok (.slice (some ⟨w.heap.size,0,none⟩) l.length l.length) (w.alloc (.cells (madeCells upZ (l.length * 2)) 60)):=
  run_make_wide (P:=Tryz.prog) 51 60 _ 2 16 Tryz.underlying51 info_up .i64 .i64 l.length (by omega) hn
 go_enter Tryz.func45,Tryz.ntmps45;go_wp2_with fail
 clear hmk;go_loopw [4] (fun i wr=>∃(k:Nat),k<=l.length/\i=.int .i64 k/\BelowS w.heap.size w wr/\wr.rowIs w.heap.size 60 (l.length * 2) (fun j=>if j / 2<k then(if j % 2=0 then .bool (l[j / 2]?.getD (false,0)).1 else .int .i64 (l[j / 2]?.getD (false,0)).2)else upZ[j % 2]!)) (fun i _=>l.length-(intOf i).toNat)
 case atStart=>exact⟨0,Nat.zero_le _,rfl,(BelowS.refl _ _).alloc (Nat.le_refl _) (),(World.rowIs_wide _ _ _ _).congr (fun i hi=>by simp[upZ])⟩
 case round=>
  obtain⟨k,hk,rfl,hbw,hrow⟩:=hrel;by_cases hlt:k<l.length
  ·obtain⟨b,off,rfl,hb,hcc⟩:=(hs.keep hbw.1 hB).2 (by omega);obtain⟨h1,h2⟩:=hcc k hlt;clear hcc;generalize hx:l[k]?.getD (false,0)=x at *;have HX:=hide hx;clear hx;go_wp2_with fail
   refine(toUp_soft _ _ _).mono ?_;rintro e w' ⟨rfl,hb'⟩;have hrow':=hrow.of_block (hb'.block _ hrow.lt);have hf0:=hrow'.frozen (k * 2);have hf1:=hrow'.frozen (k * 2+1);have hg0:=hrow'.cell (i:=k * 2) (by omega);have hg1:=hrow'.cell (i:=k * 2+1) (by omega);go_wp2_with fail
   go_roundw
   case rel=>
    refine⟨k+1,by omega,by go_num,((hbw.trans (hb'.mono hbw.size)).setCell (Nat.le_refl _) _).setCell (Nat.le_refl _) _,((hrow'.set _ _).set _ _).congr fun j hj=>?_⟩;have hx:=unhide HX;have hd:j=k * 2\/j=k * 2+1\/j / 2≠k:=by omega
    rcases hd with rfl | rfl | hd
    ·have e1:k * 2 / 2=k:=by omega
     have e2:¬k * 2=k * 2+1:=by omega
     have e3:k * 2 % 2=0:=by omega
     simp only[e1,e2,e3,if_false,if_true,hx,Nat.lt_succ_self]
    ·have e1:(k * 2+1) / 2=k:=by omega
     have e3:¬(k * 2+1) % 2=0:=by omega
     simp only[e1,e3,if_false,if_true,hx,Nat.lt_succ_self]
    ·have n1:¬j=k * 2:=by omega
     have n2:¬j=k * 2+1:=by omega
     have n3:(j / 2<k+1)=(j / 2<k):=by apply propext;omega
     simp only[n1,n2,n3,if_false]
   case measure=>simp[intOf];omega
  ·have HK:Hid (k=l.length):=by show _=_;omega
   go_wp2_with fail
   go_ret;refine⟨_,_,rfl,⟨hn,fun h0=>⟨_,0,rfl,⟨Nat.le_refl _,hrow.lt⟩,fun j hj=>⟨?_,?_⟩⟩⟩,hbw⟩
   ·have h:=hrow.cell (i:=j * 2) (by omega);have e1:j * 2 / 2=j:=by omega
    have e3:j * 2 % 2=0:=by omega
    rw[HK.out]at h;simpa only[e1,e3,hj,if_true,Nat.zero_add]using h
   ·have h:=hrow.cell (i:=j * 2+1) (by omega);have e1:(j * 2+1) / 2=j:=by omega
    have e3:¬(j * 2+1) % 2=0:=by omega
    rw[HK.out]at h;simpa only[e1,e3,hj,if_true,if_false,Nat.zero_add]using h
attribute [local go_sem] run_store_float
theorem toIntS_softf {a:Option Addr}{l:List Int}{c:Nat}{S:Nat->Prop}(w W:World)(hs:IntsAt w S a l)(hB:∀ b,S b->b<w.heap.size)(hl:l.length<=1048576)(hW:BelowS w.heap.size w W) :
  Calls Tryz.prog 84 #[.slice a l.length c] W fun e w'=>∃ a' c',e=.returned (.slice a' l.length c')/\IntsAt w' (New W.heap.size w') a' l/\BelowS W.heap.size W w'/\l.length<=c':=
 toIntS_soft a l c S W (hs.keep hW.1 hB) (fun b h=>Nat.lt_of_lt_of_le (hB b h) hW.size) hl
theorem toNode_soft (k ln op nm:Int)(fl:Nat)(s:ByteArray)(a1 a2:Option Addr)(l1 l2:List Int)(c1 c2:Nat)(S:Nat->Prop)(w:World)(h1:IntsAt w S a1 l1)(h2:IntsAt w S a2 l2)(hB:∀ b,S b->b<w.heap.size)(hl1:l1.length<=1048576)(hl2:l2.length<=1048576) :
  Calls Tryz.prog 65 #[.agg #[.int .i64 k,.int .i64 ln,.int .i64 op,.int .i64 nm,.float .f64 fl,.string s,.slice a1 l1.length c1,.slice a2 l2.length c2]] w fun e w'=>
   ∃ a1' c1' a2' c2',e=.returned (.agg #[.int .i64 k,.int .i64 ln,.int .i64 op,.int .i64 nm,.float .f64 fl,.string s,.slice a1' l1.length c1',.slice a2' l2.length c2'])/\IntsAt w' (New w.heap.size w') a1' l1/\IntsAt w' (New w.heap.size w') a2' l2/\BelowS w.heap.size w w'/\l2.length<=c2':=by
 go_enter Tryz.func65,Tryz.ntmps65;go_wp2_with fail
 refine(toIntS_softf w _ h1 hB hl1 ?hW).mono ?_
 case hW=>repeat (first | refine BelowS.alloc ?_ (by simp<;>omega) () | refine BelowS.setCell ?_ (by simp<;>omega) _ | exact BelowS.refl _ _)
 rintro e w1 ⟨a1',c1',rfl,hI1,hb1,_⟩;have hbw1:BelowS w.heap.size w w1:=by
  refine BelowS.trans (b:=_) ?_ (hb1.mono (by simp<;>omega))
  repeat (first | refine BelowS.alloc ?_ (by simp<;>omega) () | refine BelowS.setCell ?_ (by simp<;>omega) _ | exact BelowS.refl _ _)
 obtain⟨hc,hf⟩:=bcellS hb1;have hz:w.heap.size+1+1+1<=w1.heap.size:=by have:=hb1.size;simpa using this
 have hz0:w.heap.size<w1.heap.size:=by omega
 have hz1:w.heap.size+1<w1.heap.size:=by omega
 have hz2:w.heap.size+1+1<w1.heap.size:=by omega
 go_wp2_with fail
 refine(toIntS_softf w _ h2 hB hl2 ?hW2).mono ?_
 case hW2=>repeat (first | refine BelowS.alloc ?_ (by simp<;>omega) () | refine BelowS.setCell ?_ (by simp<;>omega) _ | exact hbw1)
 rintro e w2 ⟨a2',c2',rfl,hI2,hb2,hle2⟩;have HLE:=hide hle2;clear hle2;obtain⟨hc2,hf2⟩:=bcellS hb2;have hy:w1.heap.size<=w2.heap.size:=by have:=hb2.size;simpa using this
 have hy0:w.heap.size<w2.heap.size:=by omega
 have hy1:w.heap.size+1<w2.heap.size:=by omega
 have hy2:w.heap.size+1+1<w2.heap.size:=by omega
 have hI1':IntsAt w2 (New (w.heap.size+3) w1) a1' l1:=by
  refine(hI1.mono (S':=New (w.heap.size+3) w1) (fun b h=>⟨by have:=h.1;simp at this;omega,h.2⟩)).same ?_;refine Same.below ?_ hb2.1 (fun b h=>by have:=h.2;simpa using this);refine Same.setCell Same.refl ?_ _;intro h;have:=h.1;simp at this;omega
 have hI2':IntsAt w2 (New (w.heap.size+3) w2) a2' l2:=hI2.mono (fun b h=>⟨by have:=h.1;simp at this;omega,h.2⟩);have hbw2:BelowS w.heap.size w w2:=by
  refine BelowS.trans (b:=_) ?_ (hb2.mono (by simp<;>omega))
  repeat (first | refine BelowS.setCell ?_ (by simp<;>omega) _ | exact hbw1)
 clear hI1 hI2;have p1:¬New (w.heap.size+3) w1 (w.heap.size+1):=fun h=>by have:=h.1;omega
 have p2:¬New (w.heap.size+3) w1 (w.heap.size+1+1):=fun h=>by have:=h.1;omega
 have r1:¬New (w.heap.size+3) w2 (w.heap.size+1):=fun h=>by have:=h.1;omega
 have r2:¬New (w.heap.size+3) w2 (w.heap.size+1+1):=fun h=>by have:=h.1;omega
 have b1:w.heap.size<=w.heap.size+1:=by omega
 have b2:w.heap.size<=w.heap.size+1+1:=by omega
 have m1:∀ W:World,W.heap.size=w2.heap.size->∀ b,New (w.heap.size+3) w1 b->New w.heap.size W b:=fun W e b h=>⟨by have:=h.1;omega,by have:=h.2;omega⟩;have m2:∀ W:World,W.heap.size=w2.heap.size->∀ b,New (w.heap.size+3) w2 b->New w.heap.size W b:=fun W e b h=>⟨by have:=h.1;omega,by have:=h.2;omega⟩;have M:=hide (And.intro (And.intro p1 p2) (And.intro (And.intro r1 r2) (And.intro (And.intro b1 b2) (And.intro m1 m2))));clear p1 p2 r1 r2 b1 b2 m1 m2;go_wp2_with fail
 obtain⟨⟨p1,p2⟩,⟨r1,r2⟩,⟨b1,b2⟩,m1,m2⟩:=unhide M;refine bodyPost_ret (v:=.agg #[.int .i64 k,.int .i64 ln,.int .i64 op,.int .i64 nm,.float .f64 fl,.string s,.slice a1' l1.length c1',.slice a2' l2.length c2']) (by simp[results,Tryz.results65,go_sem,hc,hc2,hz1]) rfl ⟨a1',c1',a2',c2',rfl,?_,?_,?_,unhide HLE⟩
 ·refine(hI1'.same ?_).mono (m1 _ (by simp))
  iterate 8 refine Same.setCell ?_ p1 _
  refine Same.setCell ?_ p2 _;exact Same.refl
 ·refine(hI2'.same ?_).mono (m2 _ (by simp))
  iterate 8 refine Same.setCell ?_ r1 _
  refine Same.setCell ?_ r2 _;exact Same.refl
 ·iterate 8 refine BelowS.setCell ?_ b1 _
  refine BelowS.setCell ?_ b2 _;exact hbw2
theorem toNodeS_soft (a:Option Addr)(l:List NodeD)(c:Nat)(S:Nat->Prop)(w:World)(hs:NodesAt w S a l)(hB:∀ b,S b->b<w.heap.size)(hl:tNodes l<=1048576) :
  Calls Tryz.prog 46 #[.slice a l.length c] w fun e w'=>∃ a' c',e=.returned (.slice a' l.length c')/\NodesAt w' (New w.heap.size w') a' l/\BelowS w.heap.size w w':=by
 have hn:=hs.1;have hll:l.length<=1048576:=by unfold tNodes at hl;omega
 have hel:∀ k,k<l.length->(l[k]?.getD NodeD.z).refs.length<=1048576/\(l[k]?.getD NodeD.z).kids.length<=1048576:=fun k hk=>by
  have h1:=sumTo_succ tNode l k NodeD.z hk;have h2:=sumTo_le tNode l (k+1);unfold tNodes at hl;unfold tNode at h1;unfold tNode at h2 hl;constructor<;>omega
 have HEL:=hide hel;clear hel hl;have hmk:∀ w:World,(Instr.makeSlice 52 (.int .i64 (l.length:Int)) (.int .i64 (l.length:Int))).run Tryz.prog w=.ok (.slice (some ⟨w.heap.size,0,none⟩) l.length l.length) (w.alloc (.cells (madeCells nodeZ (l.length * 8)) 58)):=
  run_make_wide (P:=Tryz.prog) 52 58 _ 8 104 Tryz.underlying52 info_node .i64 .i64 l.length (by omega) hn
 go_enter Tryz.func46,Tryz.ntmps46;go_wp2_with fail
 clear hmk;go_loopw [4] (fun i wr=>∃(k:Nat) (R:Nat->NodeR),k<=l.length/\i=.int .i64 k/\BelowS w.heap.size w wr /\
   wr.rowIs w.heap.size 58 (l.length * 8) (fun j=>if j / 8<k then nodeCell (l[j / 8]?.getD NodeD.z) (R (j / 8)) (j % 8)else nodeZ[j % 8]!) /\
   (∀ i,i<k->IntsAt wr (New (w.heap.size+1) wr) (R i).ra (l[i]?.getD NodeD.z).refs/\IntsAt wr (New (w.heap.size+1) wr) (R i).ka (l[i]?.getD NodeD.z).kids/\(l[i]?.getD NodeD.z).kids.length<=(R i).kc)) (fun i _=>l.length-(intOf i).toNat)
 case atStart=>exact⟨0,fun _=>⟨none,0,none,0⟩,Nat.zero_le _,rfl,(BelowS.refl _ _).alloc (Nat.le_refl _) (),(World.rowIs_wide _ _ _ _).congr (fun i hi=>by simp[nodeZ]),fun i hi=>absurd hi (Nat.not_lt_zero _)⟩
 case round=>
  obtain⟨k,R,hk,rfl,hbw,hrow,hR⟩:=hrel;have HR:=hide hR;clear hR;by_cases hlt:k<l.length
  ·obtain⟨b,off,rfl,hb,hcc⟩:=(hs.keep hbw.1 hB).2 (by omega);have N:=hcc k hlt;obtain⟨hl1,hl2⟩:=unhide HEL k hlt;clear hcc;generalize hx:l[k]?.getD NodeD.z=nd at *;have HX:=hide hx;clear hx;obtain⟨ra,rc,hr,hrI⟩:=N.refs;obtain⟨ka,kc,hkk,hkI⟩:=N.kids;have c0:=N.kind;have c1:=N.line;have c2:=N.op;have c3:=N.num;have c4:=N.flt;have c5:=N.str;have hBr:∀ b,S b->b<wr.heap.size:=fun b h=>Nat.lt_of_lt_of_le (hB b h) hbw.size;go_wp2_with fail
   refine(toNode_soft _ _ _ _ _ _ _ _ _ _ _ _ S _ hrI hkI hBr hl1 hl2).mono ?_;rintro e w' ⟨a1',c1',a2',c2',rfl,hI1,hI2,hb',hle2⟩;have HLE:=hide hle2;clear hle2;have hrow':=hrow.of_block (hb'.block _ hrow.lt);have hf0:=hrow'.frozen (k * 8);have hf1:=hrow'.frozen (k * 8+1);have hf2:=hrow'.frozen (k * 8+2);have hf3:=hrow'.frozen (k * 8+3);have hf4:=hrow'.frozen (k * 8+4);have hf5:=hrow'.frozen (k * 8+5);have hf6:=hrow'.frozen (k * 8+6);have hf7:=hrow'.frozen (k * 8+7);have hg0:=hrow'.cell (i:=k * 8) (by omega);have hg1:=hrow'.cell (i:=k * 8+1) (by omega);have hg2:=hrow'.cell (i:=k * 8+2) (by omega);have hg3:=hrow'.cell (i:=k * 8+3) (by omega);have hg4:=hrow'.cell (i:=k * 8+4) (by omega);have hg5:=hrow'.cell (i:=k * 8+5) (by omega);have hg6:=hrow'.cell (i:=k * 8+6) (by omega);have hg7:=hrow'.cell (i:=k * 8+7) (by omega);clear c0 c1 c2 c3 c4 c5 hr hkk;go_wp2_with fail
   go_roundw
   case rel=>
    clear hg0 hg1 hg2 hg3 hg4 hg5 hg6 hg7 hf0 hf1 hf2 hf3 hf4 hf5 hf6 hf7;have hG:w.heap.size<wr.heap.size:=hrow.lt;have hx:=unhide HX;refine⟨k+1,fun i=>if i=k then⟨a1',c1',a2',c2'⟩else R i,by omega,by go_num,belowS_put8 (hbw.trans (hb'.mono hbw.size)) _ _ (Nat.le_refl _) _ _ _ _ _ _ _ _,(rowIs_put8 hrow' k _ _ _ _ _ _ _ _).congr fun j hj=>?_,fun i hi=>?_⟩
    ·by_cases e:j / 8=k
     ·have e2:j / 8<k+1:=by omega
      simp only[e,if_true,hx,nodeCell,Nat.lt_succ_self]
     ·have e2:(j / 8<k+1)=(j / 8<k):=by apply propext;omega
      simp only[e,if_false,e2]
    ·have hm:∀ W:World,W.heap.size=w'.heap.size->∀ b,New (w.heap.size+1) wr b->New (w.heap.size+1) W b:=fun W e b h=>⟨h.1,by have:=h.2;have:=hb'.size;omega⟩;have hm':∀ W:World,W.heap.size=w'.heap.size->∀ b,New wr.heap.size w' b->New (w.heap.size+1) W b:=fun W e b h=>⟨by have:=h.1;omega,by have:=h.2;omega⟩;have hng:¬New (w.heap.size+1) wr w.heap.size:=fun h=>by have:=h.1;omega
     have hng':¬New wr.heap.size w' w.heap.size:=fun h=>by have:=h.1;omega
     by_cases e:i=k
     ·subst e;simp only[if_true,hx];exact⟨(hI1.same (same_put8 Same.refl _ _ hng' _ _ _ _ _ _ _ _)).mono (hm' _ (size_put8 _ _ _ _ _ _ _ _ _ _ _)),(hI2.same (same_put8 Same.refl _ _ hng' _ _ _ _ _ _ _ _)).mono (hm' _ (size_put8 _ _ _ _ _ _ _ _ _ _ _)),unhide HLE⟩
     ·simp only[e,if_false];obtain⟨h1,h2,h3⟩:=unhide HR i (by omega);have hsame:Same (New (w.heap.size+1) wr) wr w':=.of_below hb'.1 (fun b h=>h.2);exact⟨(h1.same (same_put8 hsame _ _ hng _ _ _ _ _ _ _ _)).mono (hm _ (size_put8 _ _ _ _ _ _ _ _ _ _ _)),(h2.same (same_put8 hsame _ _ hng _ _ _ _ _ _ _ _)).mono (hm _ (size_put8 _ _ _ _ _ _ _ _ _ _ _)),h3⟩
   case measure=>simp[intOf];omega
  ·have HK:Hid (k=l.length):=by show _=_;omega
   go_wp2_with fail
   go_ret;refine⟨_,_,rfl,?_,hbw⟩;have hkl:=HK.out;subst hkl;refine nodes_of_row R hn ⟨Nat.le_refl _,hrow.lt⟩ hrow fun i hi=>?_;obtain⟨h1,h2,h3⟩:=unhide HR i hi;obtain⟨b,off,_,_,hcc⟩:=hs.2 (by omega);exact⟨(hcc i hi).strs,h1.mono (fun b h=>⟨by have:=h.1;omega,h.2⟩),h2.mono (fun b h=>⟨by have:=h.1;omega,h.2⟩),h3⟩
end Go.Proofs.YtofcbekoaghikaaGreatDoor

import Derived.Test.YtofcbekoaghikaaGreatDoorPart02
import Derived.Deep.OwnRows
set_option linter.unusedSimpArgs false
set_option linter.unusedVariables false
set_option maxHeartbeats 800000
namespace Go.Proofs.YtofcbekoaghikaaGreatDoor
open Go.RowKit
theorem info_int:(Tryz.prog.info? 3).map (fun i=>(i.zero,i.size,i.bytes))=some (some (.int .i64 0),1,8):=by kernel_rfl
theorem info_string:(Tryz.prog.info? 9).map (fun i=>(i.zero,i.size,i.bytes))=some (some (.string ByteArray.empty),1,16):=by kernel_rfl
theorem toIntS_any (a:Option Addr)(l:List Int)(c:Nat)(S:Nat->Prop)(w:World)(hs:IntsAt w S a l)(hB:∀ b,S b->b<w.heap.size)(hl:l.length<=1048576) :
  Calls Tryz.prog 84 #[.slice a l.length c] w fun e w'=>∃ a' c',e=.returned (.slice a' l.length c')/\IntsAt w' (New w.heap.size w') a' l/\Below w.heap.size w w'/\l.length<=c':=by
 have hn:=hs.1;have hmk:=run_make_row' (P:=Tryz.prog) 56 3 (.int .i64 0) 8 Tryz.underlying56 info_int rfl .i64 .i64 l.length (by omega) hn;go_enter Tryz.func84,Tryz.ntmps84;go_wp2_with fail
 clear hmk;go_loopw [4] (fun i wr=>∃(k:Nat),k<=l.length/\i=.int .i64 k/\Below w.heap.size w wr/\wr.rowIs w.heap.size 3 l.length (fun j=>if j<k then .int .i64 (l[j]?.getD 0)else .int .i64 0)) (fun i _=>l.length-(intOf i).toNat)
 case atStart=>exact⟨0,Nat.zero_le _,rfl,(Below.refl _ _).alloc (Nat.le_refl _) _,(World.rowIs_made _ _ _ _).congr (fun i hi=>by simp)⟩
 case round=>
  obtain⟨k,hk,rfl,hbw,hrow⟩:=hrel;by_cases hlt:k<l.length
  ·obtain⟨b,off,rfl,hb,hcc⟩:=(hs.keep hbw hB).2 (by omega);have hc:=hcc k hlt;have hg:=hrow.cell hlt;have hf:=hrow.frozen k;clear hcc;go_wp2_with fail
   go_roundw
   case rel=>
    refine⟨k+1,by omega,by go_num,hbw.setCell (Nat.le_refl _) _,(hrow.set k _).congr fun i hi=>?_⟩;by_cases e:i=k
    ·subst e;simp[hlt]
    ·have:(i<k+1)=(i<k):=by apply propext;omega
     simp[e,this]
   case measure=>simp[intOf];omega
  ·have HK:Hid (k=l.length):=by show _=_;omega
   go_wp2_with fail
   go_ret;refine⟨_,_,rfl,⟨hn,fun h0=>⟨_,0,rfl,⟨Nat.le_refl _,hrow.lt⟩,fun j hj=>?_⟩⟩,hbw,Nat.le_refl _⟩;have:=hrow.cell hj;rw[HK.out]at this;simpa[hj]using this
theorem toStringS_any (a:Option Addr)(l:List ByteArray)(c:Nat)(S:Nat->Prop)(w:World)(hs:StrsAt w S a l)(hB:∀ b,S b->b<w.heap.size)(hl:l.length<=1048576) :
  Calls Tryz.prog 44 #[.slice a l.length c] w fun e w'=>∃ a' c',e=.returned (.slice a' l.length c')/\StrsAt w' (New w.heap.size w') a' l/\Below w.heap.size w w':=by
 have hn:=hs.1;have hmk:=run_make_row' (P:=Tryz.prog) 46 9 (.string ByteArray.empty) 16 Tryz.underlying46 info_string rfl .i64 .i64 l.length (by omega) hn;go_enter Tryz.func44,Tryz.ntmps44;go_wp2_with fail
 clear hmk;go_loopw [4] (fun i wr=>∃(k:Nat),k<=l.length/\i=.int .i64 k/\Below w.heap.size w wr/\wr.rowIs w.heap.size 9 l.length (fun j=>if j<k then .string (l[j]?.getD ByteArray.empty)else .string ByteArray.empty)) (fun i _=>l.length-(intOf i).toNat)
 case atStart=>exact⟨0,Nat.zero_le _,rfl,(Below.refl _ _).alloc (Nat.le_refl _) _,(World.rowIs_made _ _ _ _).congr (fun i hi=>by simp)⟩
 case round=>
  obtain⟨k,hk,rfl,hbw,hrow⟩:=hrel;by_cases hlt:k<l.length
  ·obtain⟨b,off,rfl,hb,hcc⟩:=(hs.keep hbw hB).2 (by omega);have hc:=(hcc k hlt).2;have hg:=hrow.cell hlt;have hf:=hrow.frozen k;clear hcc;go_wp2_with fail
   go_roundw
   case rel=>
    refine⟨k+1,by omega,by go_num,hbw.setCell (Nat.le_refl _) _,(hrow.set k _).congr fun i hi=>?_⟩;by_cases e:i=k
    ·subst e;simp[hlt]
    ·have:(i<k+1)=(i<k):=by apply propext;omega
     simp[e,this]
   case measure=>simp[intOf];omega
  ·have HK:Hid (k=l.length):=by show _=_;omega
   go_wp2_with fail
   go_ret;refine⟨_,_,rfl,⟨hn,fun h0=>⟨_,0,rfl,⟨Nat.le_refl _,hrow.lt⟩,fun j hj=>⟨?_,?_⟩⟩⟩,hbw⟩
   ·obtain⟨b,off,_,_,hcc⟩:=hs.2 h0;exact(hcc j hj).1
   ·have:=hrow.cell hj;rw[HK.out]at this;simpa[hj]using this
theorem toUp_any (x:Bool)(i:Int)(w:World) :
  Calls Tryz.prog 64 #[.agg #[.bool x,.int .i64 i]] w fun e w'=>e=.returned (.agg #[.bool x,.int .i64 i])/\Below w.heap.size w w':=by
 go_enter Tryz.func64,Tryz.ntmps64;go_wp2_with fail
 exact bodyPost_ret (v:=.agg #[.bool x,.int .i64 i]) (by simp[results,Tryz.results64,go_sem]) rfl ⟨rfl,by repeat (first | refine Below.alloc ?_ (by simp<;>omega) _ | exact Below.refl _ _)⟩
theorem run_store_float (P:Program)(w:World)(a:Addr)(k:FloatKind)(b:Nat)(m:Mode):(store a (.float k b) m).run P w=stored P w a (.float k b) m:=run_store P w a _ m rfl
theorem run_make_wide {P:Program}(t e:TypeId)(z:Value)(size bytes:Nat)(ht:P.underlying t=some (.slice e))(hinfo:(P.info? e).map (fun i=>(i.zero,i.size,i.bytes))=some (some z,size,bytes))
  (kl kc:IntKind)(n:Nat)(hbytes:bytes * n<=281474976710656)(h63:n<=9223372036854775807)(w:World) :
  (Instr.makeSlice t (.int kl (n:Int)) (.int kc (n:Int))).run P w=.ok (.slice (some ⟨w.heap.size,0,none⟩) n n) (w.alloc (.cells (madeCells z.cells (n * size)) e)):=by
 obtain⟨i,hi,hzz⟩:=Option.map_eq_some_iff.1 hinfo;simp only[Prod.mk.injEq]at hzz;obtain⟨hz,hs,hb⟩:=hzz;subst hs;subst hb;have hb':(i.bytes:Int) * (n:Int)<=281474976710656:=by
  have h:((i.bytes * n:Nat):Int)<=281474976710656:=by omega
  rwa [Int.natCast_mul]at h
 have hr:=run_make (P:=P) w t e i z ht hi hz kl kc n n (by omega) (Int.le_refl _) hb' (by omega);simp only[Int.toNat_natCast]at hr;exact hr
theorem World.rowIs_wide (w:World)(z:Array Value)(m:Nat)(t:TypeId):(w.alloc (.cells (madeCells z m) t)).rowIs w.heap.size t m (fun j=>z[j % z.size]!):=
 ⟨_,Go.Deep.blk_alloc_new _ _,size_madeCells _ _,fun i hi=>by simp[madeCells,hi]⟩
theorem info_up:(Tryz.prog.info? 60).map (fun i=>(i.zero,i.size,i.bytes))=some (some (.agg #[.bool false,.int .i64 0]),2,16):=by kernel_rfl
def upZ:Array Value:=#[.bool false,.int .i64 0]
theorem toUpS_any (a:Option Addr)(l:List (Bool×Int))(c:Nat)(S:Nat->Prop)(w:World)(hs:UpsAt w S a l)(hB:∀ b,S b->b<w.heap.size)(hl:l.length<=1048576) :
  Calls Tryz.prog 45 #[.slice a l.length c] w fun e w'=>∃ a' c',e=.returned (.slice a' l.length c')/\UpsAt w' (New w.heap.size w') a' l/\Below w.heap.size w w':=by
 have hn:=hs.1;have hmk:∀ w:World,(Instr.makeSlice 51 (.int .i64 (l.length:Int)) (.int .i64 (l.length:Int))).run Tryz.prog w=.ok (.slice (some ⟨w.heap.size,0,none⟩) l.length l.length) (w.alloc (.cells (madeCells upZ (l.length * 2)) 60)):=
  run_make_wide (P:=Tryz.prog) 51 60 _ 2 16 Tryz.underlying51 info_up .i64 .i64 l.length (by omega) hn
 go_enter Tryz.func45,Tryz.ntmps45;go_wp2_with fail
 clear hmk;go_loopw [4] (fun i wr=>∃(k:Nat),k<=l.length/\i=.int .i64 k/\Below w.heap.size w wr/\wr.rowIs w.heap.size 60 (l.length * 2) (fun j=>if j / 2<k then(if j % 2=0 then .bool (l[j / 2]?.getD (false,0)).1 else .int .i64 (l[j / 2]?.getD (false,0)).2)else upZ[j % 2]!)) (fun i _=>l.length-(intOf i).toNat)
 case atStart=>exact⟨0,Nat.zero_le _,rfl,(Below.refl _ _).alloc (Nat.le_refl _) _,(World.rowIs_wide _ _ _ _).congr (fun i hi=>by simp[upZ])⟩
 case round=>
  obtain⟨k,hk,rfl,hbw,hrow⟩:=hrel;by_cases hlt:k<l.length
  ·obtain⟨b,off,rfl,hb,hcc⟩:=(hs.keep hbw hB).2 (by omega);obtain⟨h1,h2⟩:=hcc k hlt;clear hcc;generalize hx:l[k]?.getD (false,0)=x at *;have HX:=hide hx;clear hx;go_wp2_with fail
   refine(toUp_any _ _ _).mono ?_;rintro e w' ⟨rfl,hb'⟩;have hrow':=hrow.of_block (hb'.block _ hrow.lt);have hf0:=hrow'.frozen (k * 2);have hf1:=hrow'.frozen (k * 2+1);have hg0:=hrow'.cell (i:=k * 2) (by omega);have hg1:=hrow'.cell (i:=k * 2+1) (by omega);go_wp2_with fail
   go_roundw
   case rel=>
    refine⟨k+1,by omega,by go_num,((hbw.trans (hb'.mono hbw.size)).setCell (Nat.le_refl _) _).setCell (Nat.le_refl _) _,((hrow'.set _ _).set _ _).congr fun j hj=>?_⟩;have hx:=unhide HX;have hd:j=k * 2\/j=k * 2+1\/j / 2≠k:=by omega
    rcases hd with rfl | rfl | hd
    ·have e1:k * 2 / 2=k:=by omega
     have e2:¬k * 2=k * 2+1:=by omega
     have e3:k * 2 % 2=0:=by omega
     simp only[e1,e2,e3,if_false,if_true,hx,Nat.lt_succ_self]
    ·have e1:(k * 2+1) / 2=k:=by omega
     have e3:¬(k * 2+1) % 2=0:=by omega
     simp only[e1,e3,if_false,if_true,hx,Nat.lt_succ_self]
    ·have n1:¬j=k * 2:=by omega
     have n2:¬j=k * 2+1:=by omega
     have n3:(j / 2<k+1)=(j / 2<k):=by apply propext;omega
     simp only[n1,n2,n3,if_false]
   case measure=>simp[intOf];omega
  ·have HK:Hid (k=l.length):=by show _=_;omega
   go_wp2_with fail
   go_ret;refine⟨_,_,rfl,⟨hn,fun h0=>⟨_,0,rfl,⟨Nat.le_refl _,hrow.lt⟩,fun j hj=>⟨?_,?_⟩⟩⟩,hbw⟩
   ·have h:=hrow.cell (i:=j * 2) (by omega);have e1:j * 2 / 2=j:=by omega
    have e3:j * 2 % 2=0:=by omega
    rw[HK.out]at h;simpa only[e1,e3,hj,if_true,Nat.zero_add]using h
   ·have h:=hrow.cell (i:=j * 2+1) (by omega);have e1:(j * 2+1) / 2=j:=by omega
    have e3:¬(j * 2+1) % 2=0:=by omega
    rw[HK.out]at h;simpa only[e1,e3,hj,if_true,if_false,Nat.zero_add]using h
attribute [local go_sem] run_store_float
theorem toIntS_from {a:Option Addr}{l:List Int}{c:Nat}{S:Nat->Prop}(w W:World)(hs:IntsAt w S a l)(hB:∀ b,S b->b<w.heap.size)(hl:l.length<=1048576)(hW:Below w.heap.size w W) :
  Calls Tryz.prog 84 #[.slice a l.length c] W fun e w'=>∃ a' c',e=.returned (.slice a' l.length c')/\IntsAt w' (New W.heap.size w') a' l/\Below W.heap.size W w'/\l.length<=c':=
 toIntS_any a l c S W (hs.keep hW hB) (fun b h=>Nat.lt_of_lt_of_le (hB b h) hW.size) hl
theorem toNode_any (k ln op nm:Int)(fl:Nat)(s:ByteArray)(a1 a2:Option Addr)(l1 l2:List Int)(c1 c2:Nat)(S:Nat->Prop)(w:World)(h1:IntsAt w S a1 l1)(h2:IntsAt w S a2 l2)(hB:∀ b,S b->b<w.heap.size)(hl1:l1.length<=1048576)(hl2:l2.length<=1048576) :
  Calls Tryz.prog 65 #[.agg #[.int .i64 k,.int .i64 ln,.int .i64 op,.int .i64 nm,.float .f64 fl,.string s,.slice a1 l1.length c1,.slice a2 l2.length c2]] w fun e w'=>
   ∃ a1' c1' a2' c2',e=.returned (.agg #[.int .i64 k,.int .i64 ln,.int .i64 op,.int .i64 nm,.float .f64 fl,.string s,.slice a1' l1.length c1',.slice a2' l2.length c2'])/\IntsAt w' (New w.heap.size w') a1' l1/\IntsAt w' (New w.heap.size w') a2' l2/\Below w.heap.size w w'/\l2.length<=c2':=by
 go_enter Tryz.func65,Tryz.ntmps65;go_wp2_with fail
 refine(toIntS_from w _ h1 hB hl1 ?hW).mono ?_
 case hW=>repeat (first | refine Below.alloc ?_ (by simp<;>omega) _ | refine Below.setCell ?_ (by simp<;>omega) _ | exact Below.refl _ _)
 rintro e w1 ⟨a1',c1',rfl,hI1,hb1,_⟩;have hbw1:Below w.heap.size w w1:=by
  refine Below.trans (b:=_) ?_ (hb1.mono (by simp<;>omega))
  repeat (first | refine Below.alloc ?_ (by simp<;>omega) _ | refine Below.setCell ?_ (by simp<;>omega) _ | exact Below.refl _ _)
 obtain⟨hc,hf⟩:=bcell hb1;have hz:w.heap.size+1+1+1<=w1.heap.size:=by have:=hb1.size;simpa using this
 have hz0:w.heap.size<w1.heap.size:=by omega
 have hz1:w.heap.size+1<w1.heap.size:=by omega
 have hz2:w.heap.size+1+1<w1.heap.size:=by omega
 go_wp2_with fail
 refine(toIntS_from w _ h2 hB hl2 ?hW2).mono ?_
 case hW2=>repeat (first | refine Below.alloc ?_ (by simp<;>omega) _ | refine Below.setCell ?_ (by simp<;>omega) _ | exact hbw1)
 rintro e w2 ⟨a2',c2',rfl,hI2,hb2,hle2⟩;have HLE:=hide hle2;clear hle2;obtain⟨hc2,hf2⟩:=bcell hb2;have hy:w1.heap.size<=w2.heap.size:=by have:=hb2.size;simpa using this
 have hy0:w.heap.size<w2.heap.size:=by omega
 have hy1:w.heap.size+1<w2.heap.size:=by omega
 have hy2:w.heap.size+1+1<w2.heap.size:=by omega
 have hI1':IntsAt w2 (New (w.heap.size+3) w1) a1' l1:=by
  refine(hI1.mono (S':=New (w.heap.size+3) w1) (fun b h=>⟨by have:=h.1;simp at this;omega,h.2⟩)).same ?_;refine Same.below ?_ hb2 (fun b h=>by have:=h.2;simpa using this);refine Same.setCell Same.refl ?_ _;intro h;have:=h.1;simp at this;omega
 have hI2':IntsAt w2 (New (w.heap.size+3) w2) a2' l2:=hI2.mono (fun b h=>⟨by have:=h.1;simp at this;omega,h.2⟩);have hbw2:Below w.heap.size w w2:=by
  refine Below.trans (b:=_) ?_ (hb2.mono (by simp<;>omega))
  repeat (first | refine Below.setCell ?_ (by simp<;>omega) _ | exact hbw1)
 clear hI1 hI2;have p1:¬New (w.heap.size+3) w1 (w.heap.size+1):=fun h=>by have:=h.1;omega
 have p2:¬New (w.heap.size+3) w1 (w.heap.size+1+1):=fun h=>by have:=h.1;omega
 have r1:¬New (w.heap.size+3) w2 (w.heap.size+1):=fun h=>by have:=h.1;omega
 have r2:¬New (w.heap.size+3) w2 (w.heap.size+1+1):=fun h=>by have:=h.1;omega
 have b1:w.heap.size<=w.heap.size+1:=by omega
 have b2:w.heap.size<=w.heap.size+1+1:=by omega
 have m1:∀ W:World,W.heap.size=w2.heap.size->∀ b,New (w.heap.size+3) w1 b->New w.heap.size W b:=fun W e b h=>⟨by have:=h.1;omega,by have:=h.2;omega⟩;have m2:∀ W:World,W.heap.size=w2.heap.size->∀ b,New (w.heap.size+3) w2 b->New w.heap.size W b:=fun W e b h=>⟨by have:=h.1;omega,by have:=h.2;omega⟩;have M:=hide (And.intro (And.intro p1 p2) (And.intro (And.intro r1 r2) (And.intro (And.intro b1 b2) (And.intro m1 m2))));clear p1 p2 r1 r2 b1 b2 m1 m2;go_wp2_with fail
 obtain⟨⟨p1,p2⟩,⟨r1,r2⟩,⟨b1,b2⟩,m1,m2⟩:=unhide M;refine bodyPost_ret (v:=.agg #[.int .i64 k,.int .i64 ln,.int .i64 op,.int .i64 nm,.float .f64 fl,.string s,.slice a1' l1.length c1',.slice a2' l2.length c2']) (by simp[results,Tryz.results65,go_sem,hc,hc2,hz1]) rfl ⟨a1',c1',a2',c2',rfl,?_,?_,?_,unhide HLE⟩
 ·refine(hI1'.same ?_).mono (m1 _ (by simp))
  iterate 8 refine Same.setCell ?_ p1 _
  refine Same.setCell ?_ p2 _;exact Same.refl
 ·refine(hI2'.same ?_).mono (m2 _ (by simp))
  iterate 8 refine Same.setCell ?_ r1 _
  refine Same.setCell ?_ r2 _;exact Same.refl
 ·iterate 8 refine Below.setCell ?_ b1 _
  refine Below.setCell ?_ b2 _;exact hbw2
def sel8 (v0 v1 v2 v3 v4 v5 v6 v7:Value):Nat->Value
 | 0=>v0
 | 1=>v1
 | 2=>v2
 | 3=>v3
 | 4=>v4
 | 5=>v5
 | 6=>v6
 | _=>v7
theorem rowIs_put8 {w:World}{G t m:Nat}{f:Nat->Value}(h:w.rowIs G t m f)(k:Nat)(v0 v1 v2 v3 v4 v5 v6 v7:Value) :
  ((((((((w.setCell ⟨G,k * 8,none⟩ v0).setCell ⟨G,k * 8+1,none⟩ v1).setCell ⟨G,k * 8+2,none⟩ v2).setCell ⟨G,k * 8+3,none⟩ v3).setCell ⟨G,k * 8+4,none⟩ v4).setCell ⟨G,k * 8+5,none⟩ v5).setCell ⟨G,k * 8+6,none⟩ v6).setCell ⟨G,k * 8+7,none⟩ v7).rowIs G t m (fun j=>if j / 8=k then sel8 v0 v1 v2 v3 v4 v5 v6 v7 (j % 8)else f j):=by
 have h':=h
 replace h':=h'.set (k * 8) v0
 replace h':=h'.set (k * 8+1) v1
 replace h':=h'.set (k * 8+2) v2
 replace h':=h'.set (k * 8+3) v3
 replace h':=h'.set (k * 8+4) v4
 replace h':=h'.set (k * 8+5) v5
 replace h':=h'.set (k * 8+6) v6
 replace h':=h'.set (k * 8+7) v7
 refine h'.congr fun j hj=>?_;have hd:j=k * 8\/j=k * 8+1\/j=k * 8+2\/j=k * 8+3\/j=k * 8+4\/j=k * 8+5\/j=k * 8+6\/j=k * 8+7\/j / 8≠k:=by omega
 rcases hd with rfl | rfl | rfl | rfl | rfl | rfl | rfl | rfl | hd
 ·have e1:(k * 8) / 8=k:=by omega
  have e2:(k * 8) % 8=0:=by omega
  have n1:¬(k * 8=k * 8+1):=by omega
  have n2:¬(k * 8=k * 8+2):=by omega
  have n3:¬(k * 8=k * 8+3):=by omega
  have n4:¬(k * 8=k * 8+4):=by omega
  have n5:¬(k * 8=k * 8+5):=by omega
  have n6:¬(k * 8=k * 8+6):=by omega
  have n7:¬(k * 8=k * 8+7):=by omega
  simp only[e1,e2,if_true,if_false,sel8,n1,n2,n3,n4,n5,n6,n7]
 ·have e1:(k * 8+1) / 8=k:=by omega
  have e2:(k * 8+1) % 8=1:=by omega
  have n2:¬(k * 8+1=k * 8+2):=by omega
  have n3:¬(k * 8+1=k * 8+3):=by omega
  have n4:¬(k * 8+1=k * 8+4):=by omega
  have n5:¬(k * 8+1=k * 8+5):=by omega
  have n6:¬(k * 8+1=k * 8+6):=by omega
  have n7:¬(k * 8+1=k * 8+7):=by omega
  simp only[e1,e2,if_true,if_false,sel8,n2,n3,n4,n5,n6,n7]
 ·have e1:(k * 8+2) / 8=k:=by omega
  have e2:(k * 8+2) % 8=2:=by omega
  have n3:¬(k * 8+2=k * 8+3):=by omega
  have n4:¬(k * 8+2=k * 8+4):=by omega
  have n5:¬(k * 8+2=k * 8+5):=by omega
  have n6:¬(k * 8+2=k * 8+6):=by omega
  have n7:¬(k * 8+2=k * 8+7):=by omega
  simp only[e1,e2,if_true,if_false,sel8,n3,n4,n5,n6,n7]
 ·have e1:(k * 8+3) / 8=k:=by omega
  have e2:(k * 8+3) % 8=3:=by omega
  have n4:¬(k * 8+3=k * 8+4):=by omega
  have n5:¬(k * 8+3=k * 8+5):=by omega
  have n6:¬(k * 8+3=k * 8+6):=by omega
  have n7:¬(k * 8+3=k * 8+7):=by omega
  simp only[e1,e2,if_true,if_false,sel8,n4,n5,n6,n7]
 ·have e1:(k * 8+4) / 8=k:=by omega
  have e2:(k * 8+4) % 8=4:=by omega
  have n5:¬(k * 8+4=k * 8+5):=by omega
  have n6:¬(k * 8+4=k * 8+6):=by omega
  have n7:¬(k * 8+4=k * 8+7):=by omega
  simp only[e1,e2,if_true,if_false,sel8,n5,n6,n7]
 ·have e1:(k * 8+5) / 8=k:=by omega
  have e2:(k * 8+5) % 8=5:=by omega
  have n6:¬(k * 8+5=k * 8+6):=by omega
  have n7:¬(k * 8+5=k * 8+7):=by omega
  simp only[e1,e2,if_true,if_false,sel8,n6,n7]
 ·have e1:(k * 8+6) / 8=k:=by omega
  have e2:(k * 8+6) % 8=6:=by omega
  have n7:¬(k * 8+6=k * 8+7):=by omega
  simp only[e1,e2,if_true,if_false,sel8,n7]
 ·have e1:(k * 8+7) / 8=k:=by omega
  have e2:(k * 8+7) % 8=7:=by omega
  simp only[e1,e2,if_true,sel8]
 ·have e1:¬(j / 8=k):=hd;have n0:¬(j=k * 8):=by omega
  have n1:¬(j=k * 8+1):=by omega
  have n2:¬(j=k * 8+2):=by omega
  have n3:¬(j=k * 8+3):=by omega
  have n4:¬(j=k * 8+4):=by omega
  have n5:¬(j=k * 8+5):=by omega
  have n6:¬(j=k * 8+6):=by omega
  have n7:¬(j=k * 8+7):=by omega
  simp only[e1,if_false,n0,n1,n2,n3,n4,n5,n6,n7]
theorem below_put8 {B:Nat}{w w1:World}(h:Below B w w1)(G k:Nat)(hG:B<=G)(v0 v1 v2 v3 v4 v5 v6 v7:Value) :
  Below B w ((((((((w1.setCell ⟨G,k * 8,none⟩ v0).setCell ⟨G,k * 8+1,none⟩ v1).setCell ⟨G,k * 8+2,none⟩ v2).setCell ⟨G,k * 8+3,none⟩ v3).setCell ⟨G,k * 8+4,none⟩ v4).setCell ⟨G,k * 8+5,none⟩ v5).setCell ⟨G,k * 8+6,none⟩ v6).setCell ⟨G,k * 8+7,none⟩ v7):=by
 iterate 8 refine Below.setCell ?_ hG _
 exact h
theorem same_put8 {S:Nat->Prop}{w w1:World}(h:Same S w w1)(G k:Nat)(hG:¬S G)(v0 v1 v2 v3 v4 v5 v6 v7:Value) :
  Same S w ((((((((w1.setCell ⟨G,k * 8,none⟩ v0).setCell ⟨G,k * 8+1,none⟩ v1).setCell ⟨G,k * 8+2,none⟩ v2).setCell ⟨G,k * 8+3,none⟩ v3).setCell ⟨G,k * 8+4,none⟩ v4).setCell ⟨G,k * 8+5,none⟩ v5).setCell ⟨G,k * 8+6,none⟩ v6).setCell ⟨G,k * 8+7,none⟩ v7):=by
 iterate 8 refine Same.setCell ?_ hG _
 exact h
theorem size_put8 (w1:World)(G k:Nat)(v0 v1 v2 v3 v4 v5 v6 v7:Value):((((((((w1.setCell ⟨G,k * 8,none⟩ v0).setCell ⟨G,k * 8+1,none⟩ v1).setCell ⟨G,k * 8+2,none⟩ v2).setCell ⟨G,k * 8+3,none⟩ v3).setCell ⟨G,k * 8+4,none⟩ v4).setCell ⟨G,k * 8+5,none⟩ v5).setCell ⟨G,k * 8+6,none⟩ v6).setCell ⟨G,k * 8+7,none⟩ v7).heap.size=w1.heap.size:=by simp
def sel7 (v0 v1 v2 v3 v4 v5 v6:Value):Nat->Value
 | 0=>v0
 | 1=>v1
 | 2=>v2
 | 3=>v3
 | 4=>v4
 | 5=>v5
 | _=>v6
theorem rowIs_put7 {w:World}{G t m:Nat}{f:Nat->Value}(h:w.rowIs G t m f)(k:Nat)(v0 v1 v2 v3 v4 v5 v6:Value) :
  (((((((w.setCell ⟨G,k * 7,none⟩ v0).setCell ⟨G,k * 7+1,none⟩ v1).setCell ⟨G,k * 7+2,none⟩ v2).setCell ⟨G,k * 7+3,none⟩ v3).setCell ⟨G,k * 7+4,none⟩ v4).setCell ⟨G,k * 7+5,none⟩ v5).setCell ⟨G,k * 7+6,none⟩ v6).rowIs G t m (fun j=>if j / 7=k then sel7 v0 v1 v2 v3 v4 v5 v6 (j % 7)else f j):=by
 have h':=h
 replace h':=h'.set (k * 7) v0
 replace h':=h'.set (k * 7+1) v1
 replace h':=h'.set (k * 7+2) v2
 replace h':=h'.set (k * 7+3) v3
 replace h':=h'.set (k * 7+4) v4
 replace h':=h'.set (k * 7+5) v5
 replace h':=h'.set (k * 7+6) v6
 refine h'.congr fun j hj=>?_;have hd:j=k * 7\/j=k * 7+1\/j=k * 7+2\/j=k * 7+3\/j=k * 7+4\/j=k * 7+5\/j=k * 7+6\/j / 7≠k:=by omega
 rcases hd with rfl | rfl | rfl | rfl | rfl | rfl | rfl | hd
 ·have e1:(k * 7) / 7=k:=by omega
  have e2:(k * 7) % 7=0:=by omega
  have n1:¬(k * 7=k * 7+1):=by omega
  have n2:¬(k * 7=k * 7+2):=by omega
  have n3:¬(k * 7=k * 7+3):=by omega
  have n4:¬(k * 7=k * 7+4):=by omega
  have n5:¬(k * 7=k * 7+5):=by omega
  have n6:¬(k * 7=k * 7+6):=by omega
  simp only[e1,e2,if_true,if_false,sel7,n1,n2,n3,n4,n5,n6]
 ·have e1:(k * 7+1) / 7=k:=by omega
  have e2:(k * 7+1) % 7=1:=by omega
  have n2:¬(k * 7+1=k * 7+2):=by omega
  have n3:¬(k * 7+1=k * 7+3):=by omega
  have n4:¬(k * 7+1=k * 7+4):=by omega
  have n5:¬(k * 7+1=k * 7+5):=by omega
  have n6:¬(k * 7+1=k * 7+6):=by omega
  simp only[e1,e2,if_true,if_false,sel7,n2,n3,n4,n5,n6]
 ·have e1:(k * 7+2) / 7=k:=by omega
  have e2:(k * 7+2) % 7=2:=by omega
  have n3:¬(k * 7+2=k * 7+3):=by omega
  have n4:¬(k * 7+2=k * 7+4):=by omega
  have n5:¬(k * 7+2=k * 7+5):=by omega
  have n6:¬(k * 7+2=k * 7+6):=by omega
  simp only[e1,e2,if_true,if_false,sel7,n3,n4,n5,n6]
 ·have e1:(k * 7+3) / 7=k:=by omega
  have e2:(k * 7+3) % 7=3:=by omega
  have n4:¬(k * 7+3=k * 7+4):=by omega
  have n5:¬(k * 7+3=k * 7+5):=by omega
  have n6:¬(k * 7+3=k * 7+6):=by omega
  simp only[e1,e2,if_true,if_false,sel7,n4,n5,n6]
 ·have e1:(k * 7+4) / 7=k:=by omega
  have e2:(k * 7+4) % 7=4:=by omega
  have n5:¬(k * 7+4=k * 7+5):=by omega
  have n6:¬(k * 7+4=k * 7+6):=by omega
  simp only[e1,e2,if_true,if_false,sel7,n5,n6]
 ·have e1:(k * 7+5) / 7=k:=by omega
  have e2:(k * 7+5) % 7=5:=by omega
  have n6:¬(k * 7+5=k * 7+6):=by omega
  simp only[e1,e2,if_true,if_false,sel7,n6]
 ·have e1:(k * 7+6) / 7=k:=by omega
  have e2:(k * 7+6) % 7=6:=by omega
  simp only[e1,e2,if_true,sel7]
 ·have e1:¬(j / 7=k):=hd;have n0:¬(j=k * 7):=by omega
  have n1:¬(j=k * 7+1):=by omega
  have n2:¬(j=k * 7+2):=by omega
  have n3:¬(j=k * 7+3):=by omega
  have n4:¬(j=k * 7+4):=by omega
  have n5:¬(j=k * 7+5):=by omega
  have n6:¬(j=k * 7+6):=by omega
  simp only[e1,if_false,n0,n1,n2,n3,n4,n5,n6]
theorem below_put7 {B:Nat}{w w1:World}(h:Below B w w1)(G k:Nat)(hG:B<=G)(v0 v1 v2 v3 v4 v5 v6:Value) :
  Below B w (((((((w1.setCell ⟨G,k * 7,none⟩ v0).setCell ⟨G,k * 7+1,none⟩ v1).setCell ⟨G,k * 7+2,none⟩ v2).setCell ⟨G,k * 7+3,none⟩ v3).setCell ⟨G,k * 7+4,none⟩ v4).setCell ⟨G,k * 7+5,none⟩ v5).setCell ⟨G,k * 7+6,none⟩ v6):=by
 iterate 7 refine Below.setCell ?_ hG _
 exact h
theorem same_put7 {S:Nat->Prop}{w w1:World}(h:Same S w w1)(G k:Nat)(hG:¬S G)(v0 v1 v2 v3 v4 v5 v6:Value) :
  Same S w (((((((w1.setCell ⟨G,k * 7,none⟩ v0).setCell ⟨G,k * 7+1,none⟩ v1).setCell ⟨G,k * 7+2,none⟩ v2).setCell ⟨G,k * 7+3,none⟩ v3).setCell ⟨G,k * 7+4,none⟩ v4).setCell ⟨G,k * 7+5,none⟩ v5).setCell ⟨G,k * 7+6,none⟩ v6):=by
 iterate 7 refine Same.setCell ?_ hG _
 exact h
theorem size_put7 (w1:World)(G k:Nat)(v0 v1 v2 v3 v4 v5 v6:Value):(((((((w1.setCell ⟨G,k * 7,none⟩ v0).setCell ⟨G,k * 7+1,none⟩ v1).setCell ⟨G,k * 7+2,none⟩ v2).setCell ⟨G,k * 7+3,none⟩ v3).setCell ⟨G,k * 7+4,none⟩ v4).setCell ⟨G,k * 7+5,none⟩ v5).setCell ⟨G,k * 7+6,none⟩ v6).heap.size=w1.heap.size:=by simp
attribute [local go_sem] run_store_float
theorem info_node:(Tryz.prog.info? 58).map (fun i=>(i.zero,i.size,i.bytes))=some (some (.agg #[.int .i64 0,.int .i64 0,.int .i64 0,.int .i64 0,.float .f64 0,.string ByteArray.empty,.slice none 0 0,.slice none 0 0]),8,104):=by kernel_rfl
def nodeZ:Array Value:=#[.int .i64 0,.int .i64 0,.int .i64 0,.int .i64 0,.float .f64 0,.string ByteArray.empty,.slice none 0 0,.slice none 0 0]
structure NodeR where
 ra:Option Addr
 rc:Nat
 ka:Option Addr
 kc:Nat
def nodeCell (n:NodeD)(R:NodeR):Nat->Value:=
 sel8 (.int .i64 n.kind) (.int .i64 n.line) (.int .i64 n.op) (.int .i64 n.num) (.float .f64 n.flt) (.string n.str) (.slice R.ra n.refs.length R.rc) (.slice R.ka n.kids.length R.kc)
theorem nodes_of_row {w:World}{G t:Nat}{l:List NodeD}{S:Nat->Prop}(R:Nat->NodeR)(hn:l.length<=9223372036854775807)(hS:S G)
  (hrow:w.rowIs G t (l.length * 8) (fun j=>if j / 8<l.length then nodeCell (l[j / 8]?.getD NodeD.z) (R (j / 8)) (j % 8)else nodeZ[j % 8]!))
  (hI:∀ i,i<l.length->(l[i]?.getD NodeD.z).str.size<=9223372036854775807/\IntsAt w S (R i).ra (l[i]?.getD NodeD.z).refs/\IntsAt w S (R i).ka (l[i]?.getD NodeD.z).kids/\(l[i]?.getD NodeD.z).kids.length<=(R i).kc) :
  NodesAt w S (some ⟨G,0,none⟩) l:=by
 refine⟨hn,fun _=>⟨G,0,rfl,hS,fun j hj=>?_⟩⟩;have hc:∀ r,r<8->w.cell? ⟨G,0+j * 8+r,none⟩=some (nodeCell (l[j]?.getD NodeD.z) (R j) r):=fun r hr=>by
  have h:=hrow.cell (i:=j * 8+r) (by omega);have e1:(j * 8+r) / 8=j:=by omega
  have e2:(j * 8+r) % 8=r:=by omega
  simp only[e1,e2,hj,if_true]at h;rw[Nat.zero_add];exact h
 obtain⟨h0,h1,h2,h3⟩:=hI j hj;exact { kind:=hc 0 (by omega),line:=hc 1 (by omega),op:=hc 2 (by omega),num:=hc 3 (by omega),flt:=hc 4 (by omega),strs:=h0,str:=hc 5 (by omega),refs:=⟨_,_,hc 6 (by omega),h1⟩,kids:=⟨_,_,hc 7 (by omega),h2⟩,kcap:=⟨_,_,hc 7 (by omega),h3⟩ }
theorem toNodeS_any (a:Option Addr)(l:List NodeD)(c:Nat)(S:Nat->Prop)(w:World)(hs:NodesAt w S a l)(hB:∀ b,S b->b<w.heap.size)(hl:tNodes l<=1048576) :
  Calls Tryz.prog 46 #[.slice a l.length c] w fun e w'=>∃ a' c',e=.returned (.slice a' l.length c')/\NodesAt w' (New w.heap.size w') a' l/\Below w.heap.size w w':=by
 have hn:=hs.1;have hll:l.length<=1048576:=by unfold tNodes at hl;omega
 have hel:∀ k,k<l.length->(l[k]?.getD NodeD.z).refs.length<=1048576/\(l[k]?.getD NodeD.z).kids.length<=1048576:=fun k hk=>by
  have h1:=sumTo_succ tNode l k NodeD.z hk;have h2:=sumTo_le tNode l (k+1);unfold tNodes at hl;unfold tNode at h1;unfold tNode at h2 hl;constructor<;>omega
 have HEL:=hide hel;clear hel hl;have hmk:∀ w:World,(Instr.makeSlice 52 (.int .i64 (l.length:Int)) (.int .i64 (l.length:Int))).run Tryz.prog w=.ok (.slice (some ⟨w.heap.size,0,none⟩) l.length l.length) (w.alloc (.cells (madeCells nodeZ (l.length * 8)) 58)):=
  run_make_wide (P:=Tryz.prog) 52 58 _ 8 104 Tryz.underlying52 info_node .i64 .i64 l.length (by omega) hn
 go_enter Tryz.func46,Tryz.ntmps46;go_wp2_with fail
 clear hmk;go_loopw [4] (fun i wr=>∃(k:Nat) (R:Nat->NodeR),k<=l.length/\i=.int .i64 k/\Below w.heap.size w wr /\
   wr.rowIs w.heap.size 58 (l.length * 8) (fun j=>if j / 8<k then nodeCell (l[j / 8]?.getD NodeD.z) (R (j / 8)) (j % 8)else nodeZ[j % 8]!) /\
   (∀ i,i<k->IntsAt wr (New (w.heap.size+1) wr) (R i).ra (l[i]?.getD NodeD.z).refs/\IntsAt wr (New (w.heap.size+1) wr) (R i).ka (l[i]?.getD NodeD.z).kids/\(l[i]?.getD NodeD.z).kids.length<=(R i).kc)) (fun i _=>l.length-(intOf i).toNat)
 case atStart=>exact⟨0,fun _=>⟨none,0,none,0⟩,Nat.zero_le _,rfl,(Below.refl _ _).alloc (Nat.le_refl _) _,(World.rowIs_wide _ _ _ _).congr (fun i hi=>by simp[nodeZ]),fun i hi=>absurd hi (Nat.not_lt_zero _)⟩
 case round=>
  obtain⟨k,R,hk,rfl,hbw,hrow,hR⟩:=hrel;have HR:=hide hR;clear hR;by_cases hlt:k<l.length
  ·obtain⟨b,off,rfl,hb,hcc⟩:=(hs.keep hbw hB).2 (by omega);have N:=hcc k hlt;obtain⟨hl1,hl2⟩:=unhide HEL k hlt;clear hcc;generalize hx:l[k]?.getD NodeD.z=nd at *;have HX:=hide hx;clear hx;obtain⟨ra,rc,hr,hrI⟩:=N.refs;obtain⟨ka,kc,hkk,hkI⟩:=N.kids;have c0:=N.kind;have c1:=N.line;have c2:=N.op;have c3:=N.num;have c4:=N.flt;have c5:=N.str;have hBr:∀ b,S b->b<wr.heap.size:=fun b h=>Nat.lt_of_lt_of_le (hB b h) hbw.size;go_wp2_with fail
   refine(toNode_any _ _ _ _ _ _ _ _ _ _ _ _ S _ hrI hkI hBr hl1 hl2).mono ?_;rintro e w' ⟨a1',c1',a2',c2',rfl,hI1,hI2,hb',hle2⟩;have HLE:=hide hle2;clear hle2;have hrow':=hrow.of_block (hb'.block _ hrow.lt);have hf0:=hrow'.frozen (k * 8);have hf1:=hrow'.frozen (k * 8+1);have hf2:=hrow'.frozen (k * 8+2);have hf3:=hrow'.frozen (k * 8+3);have hf4:=hrow'.frozen (k * 8+4);have hf5:=hrow'.frozen (k * 8+5);have hf6:=hrow'.frozen (k * 8+6);have hf7:=hrow'.frozen (k * 8+7);have hg0:=hrow'.cell (i:=k * 8) (by omega);have hg1:=hrow'.cell (i:=k * 8+1) (by omega);have hg2:=hrow'.cell (i:=k * 8+2) (by omega);have hg3:=hrow'.cell (i:=k * 8+3) (by omega);have hg4:=hrow'.cell (i:=k * 8+4) (by omega);have hg5:=hrow'.cell (i:=k * 8+5) (by omega);have hg6:=hrow'.cell (i:=k * 8+6) (by omega);have hg7:=hrow'.cell (i:=k * 8+7) (by omega);clear c0 c1 c2 c3 c4 c5 hr hkk;go_wp2_with fail
   go_roundw
   case rel=>
    clear hg0 hg1 hg2 hg3 hg4 hg5 hg6 hg7 hf0 hf1 hf2 hf3 hf4 hf5 hf6 hf7;have hG:w.heap.size<wr.heap.size:=hrow.lt;have hx:=unhide HX;refine⟨k+1,fun i=>if i=k then⟨a1',c1',a2',c2'⟩else R i,by omega,by go_num,below_put8 (hbw.trans (hb'.mono hbw.size)) _ _ (Nat.le_refl _) _ _ _ _ _ _ _ _,(rowIs_put8 hrow' k _ _ _ _ _ _ _ _).congr fun j hj=>?_,fun i hi=>?_⟩
    ·by_cases e:j / 8=k
     ·have e2:j / 8<k+1:=by omega
      simp only[e,if_true,hx,nodeCell,Nat.lt_succ_self]
     ·have e2:(j / 8<k+1)=(j / 8<k):=by apply propext;omega
      simp only[e,if_false,e2]
    ·have hm:∀ W:World,W.heap.size=w'.heap.size->∀ b,New (w.heap.size+1) wr b->New (w.heap.size+1) W b:=fun W e b h=>⟨h.1,by have:=h.2;have:=hb'.size;omega⟩;have hm':∀ W:World,W.heap.size=w'.heap.size->∀ b,New wr.heap.size w' b->New (w.heap.size+1) W b:=fun W e b h=>⟨by have:=h.1;omega,by have:=h.2;omega⟩;have hng:¬New (w.heap.size+1) wr w.heap.size:=fun h=>by have:=h.1;omega
     have hng':¬New wr.heap.size w' w.heap.size:=fun h=>by have:=h.1;omega
     by_cases e:i=k
     ·subst e;simp only[if_true,hx];exact⟨(hI1.same (same_put8 Same.refl _ _ hng' _ _ _ _ _ _ _ _)).mono (hm' _ (size_put8 _ _ _ _ _ _ _ _ _ _ _)),(hI2.same (same_put8 Same.refl _ _ hng' _ _ _ _ _ _ _ _)).mono (hm' _ (size_put8 _ _ _ _ _ _ _ _ _ _ _)),unhide HLE⟩
     ·simp only[e,if_false];obtain⟨h1,h2,h3⟩:=unhide HR i (by omega);have hsame:Same (New (w.heap.size+1) wr) wr w':=.of_below hb' (fun b h=>h.2);exact⟨(h1.same (same_put8 hsame _ _ hng _ _ _ _ _ _ _ _)).mono (hm _ (size_put8 _ _ _ _ _ _ _ _ _ _ _)),(h2.same (same_put8 hsame _ _ hng _ _ _ _ _ _ _ _)).mono (hm _ (size_put8 _ _ _ _ _ _ _ _ _ _ _)),h3⟩
   case measure=>simp[intOf];omega
  ·have HK:Hid (k=l.length):=by show _=_;omega
   go_wp2_with fail
   go_ret;refine⟨_,_,rfl,?_,hbw⟩;have hkl:=HK.out;subst hkl;refine nodes_of_row R hn ⟨Nat.le_refl _,hrow.lt⟩ hrow fun i hi=>?_;obtain⟨h1,h2,h3⟩:=unhide HR i hi;obtain⟨b,off,_,_,hcc⟩:=hs.2 (by omega);exact⟨(hcc i hi).strs,h1.mono (fun b h=>⟨by have:=h.1;omega,h.2⟩),h2.mono (fun b h=>⟨by have:=h.1;omega,h.2⟩),h3⟩
theorem toStringS_from {a:Option Addr}{l:List ByteArray}{c:Nat}{S:Nat->Prop}(w W:World)(hs:StrsAt w S a l)(hB:∀ b,S b->b<w.heap.size)(hl:l.length<=1048576)(hW:Below w.heap.size w W) :
  Calls Tryz.prog 44 #[.slice a l.length c] W fun e w'=>∃ a' c',e=.returned (.slice a' l.length c')/\StrsAt w' (New W.heap.size w') a' l/\Below W.heap.size W w':=
 toStringS_any a l c S W (hs.keep hW hB) (fun b h=>Nat.lt_of_lt_of_le (hB b h) hW.size) hl
theorem toUpS_from {a:Option Addr}{l:List (Bool×Int)}{c:Nat}{S:Nat->Prop}(w W:World)(hs:UpsAt w S a l)(hB:∀ b,S b->b<w.heap.size)(hl:l.length<=1048576)(hW:Below w.heap.size w W) :
  Calls Tryz.prog 45 #[.slice a l.length c] W fun e w'=>∃ a' c',e=.returned (.slice a' l.length c')/\UpsAt w' (New W.heap.size w') a' l/\Below W.heap.size W w':=
 toUpS_any a l c S W (hs.keep hW hB) (fun b h=>Nat.lt_of_lt_of_le (hB b h) hW.size) hl
theorem toNodeS_from {a:Option Addr}{l:List NodeD}{c:Nat}{S:Nat->Prop}(w W:World)(hs:NodesAt w S a l)(hB:∀ b,S b->b<w.heap.size)(hl:tNodes l<=1048576)(hW:Below w.heap.size w W) :
  Calls Tryz.prog 46 #[.slice a l.length c] W fun e w'=>∃ a' c',e=.returned (.slice a' l.length c')/\NodesAt w' (New W.heap.size w') a' l/\Below W.heap.size W w':=
 toNodeS_any a l c S W (hs.keep hW hB) (fun b h=>Nat.lt_of_lt_of_le (hB b h) hW.size) hl
theorem toFn_any (nm:ByteArray)(ln pr:Int)(rs:Bool)(vs:List ByteArray)(us:List (Bool×Int))(ns:List NodeD)(a4 a5 a6:Option Addr)(c4 c5 c6:Nat)(S:Nat->Prop)(w:World)
  (h4:StrsAt w S a4 vs)(h5:UpsAt w S a5 us)(h6:NodesAt w S a6 ns)(hB:∀ b,S b->b<w.heap.size)(hl4:vs.length<=1048576)(hl5:us.length<=1048576)(hl6:tNodes ns<=1048576) :
  Calls Tryz.prog 25 #[.agg #[.string nm,.int .i64 ln,.int .i64 pr,.bool rs,.slice a4 vs.length c4,.slice a5 us.length c5,.slice a6 ns.length c6]] w fun e w'=>
   ∃ a4' c4' a5' c5' a6' c6',e=.returned (.agg #[.string nm,.int .i64 ln,.int .i64 pr,.bool rs,.slice a4' vs.length c4',.slice a5' us.length c5',.slice a6' ns.length c6'])/\StrsAt w' (New w.heap.size w') a4' vs/\UpsAt w' (New w.heap.size w') a5' us/\NodesAt w' (New w.heap.size w') a6' ns/\Below w.heap.size w w':=by
 go_enter Tryz.func25,Tryz.ntmps25;go_wp2_with fail
 refine(toStringS_from w _ h4 hB hl4 ?hW).mono ?_
 case hW=>repeat (first | refine Below.alloc ?_ (by simp<;>omega) _ | refine Below.setCell ?_ (by simp<;>omega) _ | exact Below.refl _ _)
 rintro e w1 ⟨a4',c4',rfl,hI4,hb1⟩;have hbw1:Below w.heap.size w w1:=by
  refine Below.trans (b:=_) ?_ (hb1.mono (by simp<;>omega))
  repeat (first | refine Below.alloc ?_ (by simp<;>omega) _ | refine Below.setCell ?_ (by simp<;>omega) _ | exact Below.refl _ _)
 obtain⟨hc,hf⟩:=bcell hb1;have hz:w.heap.size+1+1+1<=w1.heap.size:=by have:=hb1.size;simpa using this
 have hz0:w.heap.size<w1.heap.size:=by omega
 have hz1:w.heap.size+1<w1.heap.size:=by omega
 have hz2:w.heap.size+1+1<w1.heap.size:=by omega
 replace hI4:StrsAt w1 (New (w.heap.size+3) w1) a4' vs:=hI4.mono (fun b h=>⟨by have:=h.1;simp at this;omega,h.2⟩)
 clear hb1;go_wp2_with fail
 refine(toUpS_from w _ h5 hB hl5 ?hW2).mono ?_
 case hW2=>repeat (first | refine Below.setCell ?_ (by simp<;>omega) _ | exact hbw1)
 rintro e w2 ⟨a5',c5',rfl,hI5,hb2⟩;obtain⟨hc2,hf2⟩:=bcell hb2;have hy:w1.heap.size<=w2.heap.size:=by have:=hb2.size;simpa using this
 have hy0:w.heap.size<w2.heap.size:=by omega
 have hy1:w.heap.size+1<w2.heap.size:=by omega
 have hy2:w.heap.size+1+1<w2.heap.size:=by omega
 have hbw2:Below w.heap.size w w2:=by
  refine Below.trans (b:=_) ?_ (hb2.mono (by simp<;>omega))
  repeat (first | refine Below.setCell ?_ (by simp<;>omega) _ | exact hbw1)
 replace hI5:UpsAt w2 (New (w.heap.size+3) w2) a5' us:=hI5.mono (fun b h=>⟨by have:=h.1;simp at this;omega,h.2⟩)
 replace hI4:StrsAt w2 (New (w.heap.size+3) w1) a4' vs:=by
  refine hI4.same (Same.below (Same.setCell Same.refl ?_ _) hb2 (fun b h=>by have:=h.2;simpa using this));intro h;have:=h.1;simp at this;omega
 clear hb2;go_wp2_with fail
 refine(toNodeS_from w _ h6 hB hl6 ?hW3).mono ?_
 case hW3=>repeat (first | refine Below.setCell ?_ (by simp<;>omega) _ | exact hbw2)
 rintro e w3 ⟨a6',c6',rfl,hI6,hb3⟩;obtain⟨hc3,hf3⟩:=bcell hb3;have hv:w2.heap.size<=w3.heap.size:=by have:=hb3.size;simpa using this
 have hv0:w.heap.size<w3.heap.size:=by omega
 have hv1:w.heap.size+1<w3.heap.size:=by omega
 have hv2:w.heap.size+1+1<w3.heap.size:=by omega
 have hbw3:Below w.heap.size w w3:=by
  refine Below.trans (b:=_) ?_ (hb3.mono (by simp<;>omega))
  repeat (first | refine Below.setCell ?_ (by simp<;>omega) _ | exact hbw2)
 replace hI6:NodesAt w3 (New (w.heap.size+3) w3) a6' ns:=hI6.mono (fun b h=>⟨by have:=h.1;simp at this;omega,h.2⟩)
 replace hI5:UpsAt w3 (New (w.heap.size+3) w2) a5' us:=by
  refine hI5.same (Same.below (Same.setCell Same.refl ?_ _) hb3 (fun b h=>by have:=h.2;simpa using this));intro h;have:=h.1;simp at this;omega
 replace hI4:StrsAt w3 (New (w.heap.size+3) w1) a4' vs:=by
  refine hI4.same (Same.below (Same.setCell Same.refl ?_ _) hb3 (fun b h=>by have:=h.2;simp;omega));intro h;have:=h.1;simp at this;omega
 clear hb3;have p1:∀ W:World,¬New (w.heap.size+3) W (w.heap.size+1):=fun W h=>by have:=h.1;omega
 have p2:∀ W:World,¬New (w.heap.size+3) W (w.heap.size+1+1):=fun W h=>by have:=h.1;omega
 have b1:w.heap.size<=w.heap.size+1:=by omega
 have b2:w.heap.size<=w.heap.size+1+1:=by omega
 have m1:∀ V:World,V.heap.size<=w3.heap.size->∀ W:World,W.heap.size=w3.heap.size->∀ b,New (w.heap.size+3) V b->New w.heap.size W b:=fun V hV W e b h=>⟨by have:=h.1;omega,by have:=h.2;omega⟩;have q1:w1.heap.size<=w3.heap.size:=by omega
 have M:=hide (And.intro (And.intro p1 p2) (And.intro (And.intro b1 b2) (And.intro m1 (And.intro q1 hv))));clear p1 p2 b1 b2 m1 q1;go_wp2_with fail
 obtain⟨⟨p1,p2⟩,⟨b1,b2⟩,m1,q1,q2⟩:=unhide M;refine bodyPost_ret (v:=.agg #[.string nm,.int .i64 ln,.int .i64 pr,.bool rs,.slice a4' vs.length c4',.slice a5' us.length c5',.slice a6' ns.length c6']) (by simp[results,Tryz.results25,go_sem,hc,hc2,hc3,hz1,hy1]) rfl ⟨a4',c4',a5',c5',a6',c6',rfl,?_,?_,?_,?_⟩
 ·refine(hI4.same ?_).mono (m1 _ q1 _ (by simp))
  iterate 7 refine Same.setCell ?_ (p1 _) _
  refine Same.setCell ?_ (p2 _) _;exact Same.refl
 ·refine(hI5.same ?_).mono (m1 _ q2 _ (by simp))
  iterate 7 refine Same.setCell ?_ (p1 _) _
  refine Same.setCell ?_ (p2 _) _;exact Same.refl
 ·refine(hI6.same ?_).mono (m1 _ (Nat.le_refl _) _ (by simp))
  iterate 7 refine Same.setCell ?_ (p1 _) _
  refine Same.setCell ?_ (p2 _) _;exact Same.refl
 ·iterate 7 refine Below.setCell ?_ b1 _
  refine Below.setCell ?_ b2 _;exact hbw3
theorem info_fn:(Tryz.prog.info? 54).map (fun i=>(i.zero,i.size,i.bytes))=some (some (.agg #[.string ByteArray.empty,.int .i64 0,.int .i64 0,.bool false,.slice none 0 0,.slice none 0 0,.slice none 0 0]),7,112):=by kernel_rfl
def fnZ:Array Value:=#[.string ByteArray.empty,.int .i64 0,.int .i64 0,.bool false,.slice none 0 0,.slice none 0 0,.slice none 0 0]
structure FnR where
 va:Option Addr
 vc:Nat
 ua:Option Addr
 uc:Nat
 na:Option Addr
 nc:Nat
def fnCell (n:FnD)(R:FnR):Nat->Value:=
 sel7 (.string n.name) (.int .i64 n.line) (.int .i64 n.params) (.bool n.rest) (.slice R.va n.vars.length R.vc) (.slice R.ua n.ups.length R.uc) (.slice R.na n.nodes.length R.nc)
theorem fns_of_row {w:World}{G t:Nat}{l:List FnD}{S:Nat->Prop}(R:Nat->FnR)(hn:l.length<=9223372036854775807)(hS:S G)
  (hrow:w.rowIs G t (l.length * 7) (fun j=>if j / 7<l.length then fnCell (l[j / 7]?.getD FnD.z) (R (j / 7)) (j % 7)else fnZ[j % 7]!))
  (hI:∀ i,i<l.length->(l[i]?.getD FnD.z).name.size<=9223372036854775807/\StrsAt w S (R i).va (l[i]?.getD FnD.z).vars/\UpsAt w S (R i).ua (l[i]?.getD FnD.z).ups/\NodesAt w S (R i).na (l[i]?.getD FnD.z).nodes) :
  FnsAt w S (some ⟨G,0,none⟩) l:=by
 refine⟨hn,fun _=>⟨G,0,rfl,hS,fun j hj=>?_⟩⟩;have hc:∀ r,r<7->w.cell? ⟨G,0+j * 7+r,none⟩=some (fnCell (l[j]?.getD FnD.z) (R j) r):=fun r hr=>by
  have h:=hrow.cell (i:=j * 7+r) (by omega);have e1:(j * 7+r) / 7=j:=by omega
  have e2:(j * 7+r) % 7=r:=by omega
  simp only[e1,e2,hj,if_true]at h;rw[Nat.zero_add];exact h
 obtain⟨h0,h1,h2,h3⟩:=hI j hj;exact { names:=h0,name:=hc 0 (by omega),line:=hc 1 (by omega),params:=hc 2 (by omega),rest:=hc 3 (by omega),vars:=⟨_,_,hc 4 (by omega),h1⟩,ups:=⟨_,_,hc 5 (by omega),h2⟩,nodes:=⟨_,_,hc 6 (by omega),h3⟩ }
theorem toFnS_any (a:Option Addr)(l:List FnD)(c:Nat)(S:Nat->Prop)(w:World)(hs:FnsAt w S a l)(hB:∀ b,S b->b<w.heap.size)(hl:tFns l<=1048576) :
  Calls Tryz.prog 16 #[.slice a l.length c] w fun e w'=>∃ a' c',e=.returned (.slice a' l.length c')/\FnsAt w' (New w.heap.size w') a' l/\Below w.heap.size w w':=by
 have hn:=hs.1;have hll:l.length<=1048576:=by unfold tFns at hl;omega
 have hel:∀ k,k<l.length->(l[k]?.getD FnD.z).vars.length<=1048576/\(l[k]?.getD FnD.z).ups.length<=1048576/\tNodes (l[k]?.getD FnD.z).nodes<=1048576:=fun k hk=>by
  have h1:=sumTo_succ tFn l k FnD.z hk;have h2:=sumTo_le tFn l (k+1);unfold tFns at hl;generalize l[k]?.getD FnD.z=fd at *;have h3:tFn fd=fd.name.size+tStrs fd.vars+fd.ups.length+tNodes fd.nodes:=rfl;have h4:tStrs fd.vars=fd.vars.length+sumAll ByteArray.size fd.vars:=rfl;refine⟨?_,?_,?_⟩<;>omega
 have HEL:=hide hel;clear hel hl;have hmk:∀ w:World,(Instr.makeSlice 28 (.int .i64 (l.length:Int)) (.int .i64 (l.length:Int))).run Tryz.prog w=.ok (.slice (some ⟨w.heap.size,0,none⟩) l.length l.length) (w.alloc (.cells (madeCells fnZ (l.length * 7)) 54)):=
  run_make_wide (P:=Tryz.prog) 28 54 _ 7 112 Tryz.underlying28 info_fn .i64 .i64 l.length (by omega) hn
 go_enter Tryz.func16,Tryz.ntmps16;go_wp2_with fail
 clear hmk;go_loopw [4] (fun i wr=>∃(k:Nat) (R:Nat->FnR),k<=l.length/\i=.int .i64 k/\Below w.heap.size w wr /\
   wr.rowIs w.heap.size 54 (l.length * 7) (fun j=>if j / 7<k then fnCell (l[j / 7]?.getD FnD.z) (R (j / 7)) (j % 7)else fnZ[j % 7]!) /\
   (∀ i,i<k->StrsAt wr (New (w.heap.size+1) wr) (R i).va (l[i]?.getD FnD.z).vars/\UpsAt wr (New (w.heap.size+1) wr) (R i).ua (l[i]?.getD FnD.z).ups/\NodesAt wr (New (w.heap.size+1) wr) (R i).na (l[i]?.getD FnD.z).nodes)) (fun i _=>l.length-(intOf i).toNat)
 case atStart=>exact⟨0,fun _=>⟨none,0,none,0,none,0⟩,Nat.zero_le _,rfl,(Below.refl _ _).alloc (Nat.le_refl _) _,(World.rowIs_wide _ _ _ _).congr (fun i hi=>by simp[fnZ]),fun i hi=>absurd hi (Nat.not_lt_zero _)⟩
 case round=>
  obtain⟨k,R,hk,rfl,hbw,hrow,hR⟩:=hrel;have HR:=hide hR;clear hR;by_cases hlt:k<l.length
  ·obtain⟨b,off,rfl,hb,hcc⟩:=(hs.keep hbw hB).2 (by omega);have N:=hcc k hlt;obtain⟨hl1,hl2,hl3⟩:=unhide HEL k hlt;clear hcc;generalize hx:l[k]?.getD FnD.z=nd at *;have HX:=hide hx;clear hx;obtain⟨a4,c4,h4,H4⟩:=N.vars;obtain⟨a5,c5,h5,H5⟩:=N.ups;obtain⟨a6,c6,h6,H6⟩:=N.nodes;have c0:=N.name;have c1:=N.line;have c2:=N.params;have c3:=N.rest;have hBr:∀ b,S b->b<wr.heap.size:=fun b h=>Nat.lt_of_lt_of_le (hB b h) hbw.size;go_wp2_with fail
   refine(toFn_any _ _ _ _ _ _ _ _ _ _ _ _ _ S _ H4 H5 H6 hBr hl1 hl2 hl3).mono ?_;rintro e w' ⟨a4',c4',a5',c5',a6',c6',rfl,hI4,hI5,hI6,hb'⟩;have hrow':=hrow.of_block (hb'.block _ hrow.lt);have hf0:=hrow'.frozen (k * 7);have hf1:=hrow'.frozen (k * 7+1);have hf2:=hrow'.frozen (k * 7+2);have hf3:=hrow'.frozen (k * 7+3);have hf4:=hrow'.frozen (k * 7+4);have hf5:=hrow'.frozen (k * 7+5);have hf6:=hrow'.frozen (k * 7+6);have hg0:=hrow'.cell (i:=k * 7) (by omega);have hg1:=hrow'.cell (i:=k * 7+1) (by omega);have hg2:=hrow'.cell (i:=k * 7+2) (by omega);have hg3:=hrow'.cell (i:=k * 7+3) (by omega);have hg4:=hrow'.cell (i:=k * 7+4) (by omega);have hg5:=hrow'.cell (i:=k * 7+5) (by omega);have hg6:=hrow'.cell (i:=k * 7+6) (by omega);clear c0 c1 c2 c3 h4 h5 h6;go_wp2_with fail
   go_roundw
   case rel=>
    clear hg0 hg1 hg2 hg3 hg4 hg5 hg6 hf0 hf1 hf2 hf3 hf4 hf5 hf6;have hG:w.heap.size<wr.heap.size:=hrow.lt;have hx:=unhide HX;refine⟨k+1,fun i=>if i=k then⟨a4',c4',a5',c5',a6',c6'⟩else R i,by omega,by go_num,below_put7 (hbw.trans (hb'.mono hbw.size)) _ _ (Nat.le_refl _) _ _ _ _ _ _ _,(rowIs_put7 hrow' k _ _ _ _ _ _ _).congr fun j hj=>?_,fun i hi=>?_⟩
    ·by_cases e:j / 7=k
     ·have e2:j / 7<k+1:=by omega
      simp only[e,if_true,hx,fnCell,Nat.lt_succ_self]
     ·have e2:(j / 7<k+1)=(j / 7<k):=by apply propext;omega
      simp only[e,if_false,e2]
    ·have hm:∀ W:World,W.heap.size=w'.heap.size->∀ b,New (w.heap.size+1) wr b->New (w.heap.size+1) W b:=fun W e b h=>⟨h.1,by have:=h.2;have:=hb'.size;omega⟩;have hm':∀ W:World,W.heap.size=w'.heap.size->∀ b,New wr.heap.size w' b->New (w.heap.size+1) W b:=fun W e b h=>⟨by have:=h.1;omega,by have:=h.2;omega⟩;have hng:¬New (w.heap.size+1) wr w.heap.size:=fun h=>by have:=h.1;omega
     have hng':¬New wr.heap.size w' w.heap.size:=fun h=>by have:=h.1;omega
     by_cases e:i=k
     ·subst e;simp only[if_true,hx];exact⟨(hI4.same (same_put7 Same.refl _ _ hng' _ _ _ _ _ _ _)).mono (hm' _ (size_put7 _ _ _ _ _ _ _ _ _ _)),(hI5.same (same_put7 Same.refl _ _ hng' _ _ _ _ _ _ _)).mono (hm' _ (size_put7 _ _ _ _ _ _ _ _ _ _)),(hI6.same (same_put7 Same.refl _ _ hng' _ _ _ _ _ _ _)).mono (hm' _ (size_put7 _ _ _ _ _ _ _ _ _ _))⟩
     ·simp only[e,if_false];obtain⟨h1,h2,h3⟩:=unhide HR i (by omega);have hsame:Same (New (w.heap.size+1) wr) wr w':=.of_below hb' (fun b h=>h.2);exact⟨(h1.same (same_put7 hsame _ _ hng _ _ _ _ _ _ _)).mono (hm _ (size_put7 _ _ _ _ _ _ _ _ _ _)),(h2.same (same_put7 hsame _ _ hng _ _ _ _ _ _ _)).mono (hm _ (size_put7 _ _ _ _ _ _ _ _ _ _)),(h3.same (same_put7 hsame _ _ hng _ _ _ _ _ _ _)).mono (hm _ (size_put7 _ _ _ _ _ _ _ _ _ _))⟩
   case measure=>simp[intOf];omega
  ·have HK:Hid (k=l.length):=by show _=_;omega
   go_wp2_with fail
   go_ret;refine⟨_,_,rfl,?_,hbw⟩;have hkl:=HK.out;subst hkl;refine fns_of_row R hn ⟨Nat.le_refl _,hrow.lt⟩ hrow fun i hi=>?_;obtain⟨h1,h2,h3⟩:=unhide HR i hi;obtain⟨b,off,_,_,hcc⟩:=hs.2 (by omega);exact⟨(hcc i hi).names,h1.mono (fun b h=>⟨by have:=h.1;omega,h.2⟩),h2.mono (fun b h=>⟨by have:=h.1;omega,h.2⟩),h3.mono (fun b h=>⟨by have:=h.1;omega,h.2⟩)⟩
theorem toUnit_any (a:Option Addr)(l:List FnD)(c:Nat)(S:Nat->Prop)(w:World)(hs:FnsAt w S a l)(hB:∀ b,S b->b<w.heap.size)(hl:tFns l<=1048576) :
  Calls Tryz.prog 6 #[.agg #[.slice a l.length c]] w fun e w'=>∃ a' c',e=.returned (.agg #[.slice a' l.length c'])/\FnsAt w' (New w.heap.size w') a' l/\Below w.heap.size w w':=by
 go_enter Tryz.func6,Tryz.ntmps6;go_wp2_with fail
 have hbA:Below w.heap.size w (((w.alloc (.cells #[.slice a l.length c] 24)).alloc (.cells #[.slice none 0 0] 30)).alloc (.cells #[.slice none 0 0] 30)):=by
  repeat (first | refine Below.alloc ?_ (by simp<;>omega) _ | exact Below.refl _ _)
 refine(toFnS_any _ _ _ S _ (hs.keep hbA hB) (fun b h=>Nat.lt_of_lt_of_le (hB b h) hbA.size) hl).mono ?_;rintro e w1 ⟨a',c',rfl,hI,hb1⟩;have hbw1:Below w.heap.size w w1:=hbA.trans (hb1.mono hbA.size);obtain⟨hc,hf⟩:=bcell hb1;have hz:w.heap.size+1+1+1<=w1.heap.size:=by have:=hb1.size;simpa using this
 have hz0:w.heap.size<w1.heap.size:=by omega
 have hz1:w.heap.size+1<w1.heap.size:=by omega
 have hz2:w.heap.size+1+1<w1.heap.size:=by omega
 replace hI:FnsAt w1 (New (w.heap.size+3) w1) a' l:=hI.mono (fun b h=>⟨by have:=h.1;simp at this;omega,h.2⟩)
 clear hb1;have p1:∀ W:World,¬New (w.heap.size+3) W (w.heap.size+1):=fun W h=>by have:=h.1;omega
 have p2:∀ W:World,¬New (w.heap.size+3) W (w.heap.size+1+1):=fun W h=>by have:=h.1;omega
 have b1:w.heap.size<=w.heap.size+1:=by omega
 have b2:w.heap.size<=w.heap.size+1+1:=by omega
 have m1:∀ W:World,W.heap.size=w1.heap.size->∀ b,New (w.heap.size+3) w1 b->New w.heap.size W b:=fun W e b h=>⟨by have:=h.1;omega,by have:=h.2;omega⟩;have M:=hide (And.intro (And.intro p1 p2) (And.intro (And.intro b1 b2) m1));clear p1 p2 b1 b2 m1;go_wp2_with fail
 obtain⟨⟨p1,p2⟩,⟨b1,b2⟩,m1⟩:=unhide M;refine bodyPost_ret (v:=.agg #[.slice a' l.length c']) (by simp[results,Tryz.results6,go_sem,hc]) rfl ⟨a',c',rfl,?_,?_⟩
 ·refine(hI.same ?_).mono (m1 _ (by simp));refine Same.setCell ?_ (p1 _) _;refine Same.setCell ?_ (p2 _) _;exact Same.refl
 ·refine Below.setCell ?_ b1 _;refine Below.setCell ?_ b2 _;exact hbw1
end Go.Proofs.YtofcbekoaghikaaGreatDoor

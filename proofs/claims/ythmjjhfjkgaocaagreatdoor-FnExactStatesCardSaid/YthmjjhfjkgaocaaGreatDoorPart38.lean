import Derived.Test.YthmjjhfjkgaocaaGreatDoorPart37
import Derived.Deep.RegionLaw
import Derived.Lib.SliceRun
set_option linter.unusedSimpArgs false
set_option linter.unusedVariables false
set_option maxHeartbeats 4000000
set_option maxRecDepth 100000
namespace Go.Proofs.YthmjjhfjkgaocaaGreatDoor
open Go.RowKit
theorem see_at (bt B:Nat)(t:TD)(tv sv kv pv:Value)(x:Int)(reg:Nat)(kind:Int)(wr:World)(hx:x=(reg:Int))(h:TcW bt B t tv sv kv pv wr)(hreg:reg<t.types.length)(hlen:t.types.length≤250)(hsl:t.seen.length≤1000) :
  Calls Tryz.prog 118 #[.pointer (some ⟨bt,0,none⟩),.int .i64 x,.int .i64 kind] wr (SeePost bt B (seeT reg kind t) tv sv kv pv wr):=by
 subst hx
 exact see_any bt B t tv sv kv pv reg kind wr h hreg hlen hsl
theorem put_at (bt B:Nat)(t:TD)(tv sv kv pv:Value)(x:Int)(reg:Nat)(kind:Int)(wr:World)(hx:x=(reg:Int))(h:TcW bt B t tv sv kv pv wr)(hpl:t.puts.length≤1000) :
  Calls Tryz.prog 136 #[.pointer (some ⟨bt,0,none⟩),.int .i64 x,.int .i64 kind] wr (PutPost bt B (putT reg kind t) tv sv kv pv wr):=by
 subst hx
 exact put_any bt B t tv sv kv pv reg kind wr h hpl
theorem read_at (bt B:Nat)(t:TD)(tv sv kv pv:Value)(x:Int)(kind:Int)(wr:World)(h:TcW bt B t tv sv kv pv wr)(h1:-(t.types.length:Int)≤x)(h2:x<t.types.length)(hlen:t.types.length≤250)(hsl:t.seen.length≤1000)(htk:t.taken.length≤1000) :
  Calls Tryz.prog 135 #[.pointer (some ⟨bt,0,none⟩),.int .i64 x,.int .i64 kind] wr (RdPostT bt B (readT x kind t) tv sv kv pv wr):=by
 by_cases hx:x<0
 ·exact read_taken bt B t tv sv kv pv x (-1-x).toNat kind wr h hx (by omega) (by omega) hlen hsl htk
 ·obtain⟨R,rfl⟩:=Int.eq_ofNat_of_zero_le (show 0≤x by omega)
  exact read_plain bt B t tv sv kv pv R kind wr h (by omega) hlen
def FldPost (bt B:Nat)(t:TD)(tv sv kv pv:Value)(wr:World)(e:Ending)(w':World):Prop:=e=.returned (.tuple #[])∧∃ sv' kv' pv',TcW bt B t tv sv' kv' pv' w'∧Below B wr w'∧Frm bt [tv,sv,kv,pv] [tv,sv',kv',pv'] wr w'
def FldFits (r:Nat)(x:Int)(nt:Nat):Prop:=
 (r=12∨r=13→-(nt:Int)≤x∧x<nt)∧(r=14∨r=15∨r=16→0≤x∧x<nt)∧(r=17∨r=19→0≤x∧x+1<nt)∧(r=18→0≤x∧x+2<nt)∧(20≤r→0≤x)
def TdLen (t:TD):Prop:=t.types.length≤250∧t.seen.length≤900∧t.taken.length≤900∧t.puts.length≤900
theorem box_apart {bt B:Nat}{t:TD}{tv sv kv pv:Value}{wr:World}(h:TcW bt B t tv sv kv pv wr):wr.heap.size≠bt∧∀ v,v∈[tv,sv,kv,pv]→v.ownBlock≠some wr.heap.size:=by
 refine⟨by have:=h.row.lt;omega,fun v hv e=>?_⟩
 simp only[List.mem_cons,List.mem_nil_iff,or_false]at hv
 rcases hv with rfl | rfl | rfl | rfl
 ·have:=(h.ty.lt' _ e).2;omega
 ·have:=(h.se.lt' _ e).2;omega
 ·have:=(h.ta.lt' _ e).2;omega
 ·have:=(h.pu.lt' _ e).2;omega
theorem field_12 (bt B:Nat)(t:TD)(tv sv kv pv:Value)(x:Int)(wr:World)(h:TcW bt B t tv sv kv pv wr)(hlen:TdLen t)(hf:FldFits 12 x t.types.length) :
  Calls Tryz.prog 117 #[.pointer (some ⟨bt,0,none⟩),.agg #[.int .i64 12,.int .i64 x]] wr (FldPost bt B (fieldT 12 x t) tv sv kv pv wr):=by
 obtain⟨l1,l2,l3,l4⟩:=hlen
 obtain⟨f1,f2,f3,f4,f5⟩:=hf
 have HL:=hide (And.intro (And.intro l1 l2) (And.intro l3 l4))
 obtain⟨hbx,hvx⟩:=box_apart h
 have HBX:=hide hbx
 have HVX:=hide hvx
 have hA:Below wr.heap.size wr (wr.alloc (.cells #[.int .i64 12,.int .i64 x] 174)):=(Below.refl _ _).alloc (Nat.le_refl _) _
 have H0:=hide (h.below hA)
 have B0:Hid (Below B wr (wr.alloc (.cells #[.int .i64 12,.int .i64 x] 174))):=hA.mono (by have:=h.ge;have:=h.row.lt;omega)
 have F0:Hid (Frm bt [tv,sv,kv,pv] [tv,sv,kv,pv] wr (wr.alloc (.cells #[.int .i64 12,.int .i64 x] 174))):=Frm.of_below hA
 have FF0:=hide (Frm.refl bt [tv,sv,kv,pv] (wr.alloc (.cells #[.int .i64 12,.int .i64 x] 174)))
 have X0:Hid ((wr.alloc (.cells #[.int .i64 12,.int .i64 x] 174)).cell? ⟨wr.heap.size,1,none⟩=some (.int .i64 x)):=by show _=_;simp[go_sem]
 have S0:Hid (wr.heap.size<(wr.alloc (.cells #[.int .i64 12,.int .i64 x] 174)).heap.size):=by show _<_;simp
 clear h hA hbx hvx
 obtain⟨g1,g2⟩:=f1 (by simp)
 clear f1 f2 f3 f4 f5
 go_enter Tryz.func117,Tryz.ntmps117
 go_wp2_with fail
 refine(read_at bt B t tv sv kv pv x 1 _ (unhide H0) (by omega) (by omega) (by have:=HL.out.1.1;omega) (by have:=HL.out.1.2;omega) (by have:=HL.out.2.1;omega)).mono ?_
 rintro e w1 ⟨rfl,kv1,h1,b1,f1⟩
 have H1:=hide h1
 have B1:=hide (B0.out.trans b1)
 have F1:=hide (F0.out.trans f1)
 have FF1:=hide (FF0.out.trans f1)
 have bl1:=FF1.out.same wr.heap.size S0.out HBX.out HVX.out
 have y1:=(World.cell?_of_block (a:=⟨wr.heap.size,1,none⟩) bl1).trans X0.out
 have sz1:wr.heap.size<w1.heap.size:=World.block_lt_of_cell? _ _ y1
 clear h1 b1 f1 bl1
 go_wp2_with fail
 go_end0
 exact⟨rfl,sv,kv1,pv,(unhide H1),B1.out,F1.out⟩
theorem field_13 (bt B:Nat)(t:TD)(tv sv kv pv:Value)(x:Int)(wr:World)(h:TcW bt B t tv sv kv pv wr)(hlen:TdLen t)(hf:FldFits 13 x t.types.length) :
  Calls Tryz.prog 117 #[.pointer (some ⟨bt,0,none⟩),.agg #[.int .i64 13,.int .i64 x]] wr (FldPost bt B (fieldT 13 x t) tv sv kv pv wr):=by
 obtain⟨l1,l2,l3,l4⟩:=hlen
 obtain⟨f1,f2,f3,f4,f5⟩:=hf
 have HL:=hide (And.intro (And.intro l1 l2) (And.intro l3 l4))
 obtain⟨hbx,hvx⟩:=box_apart h
 have HBX:=hide hbx
 have HVX:=hide hvx
 have hA:Below wr.heap.size wr (wr.alloc (.cells #[.int .i64 13,.int .i64 x] 174)):=(Below.refl _ _).alloc (Nat.le_refl _) _
 have H0:=hide (h.below hA)
 have B0:Hid (Below B wr (wr.alloc (.cells #[.int .i64 13,.int .i64 x] 174))):=hA.mono (by have:=h.ge;have:=h.row.lt;omega)
 have F0:Hid (Frm bt [tv,sv,kv,pv] [tv,sv,kv,pv] wr (wr.alloc (.cells #[.int .i64 13,.int .i64 x] 174))):=Frm.of_below hA
 have FF0:=hide (Frm.refl bt [tv,sv,kv,pv] (wr.alloc (.cells #[.int .i64 13,.int .i64 x] 174)))
 have X0:Hid ((wr.alloc (.cells #[.int .i64 13,.int .i64 x] 174)).cell? ⟨wr.heap.size,1,none⟩=some (.int .i64 x)):=by show _=_;simp[go_sem]
 have S0:Hid (wr.heap.size<(wr.alloc (.cells #[.int .i64 13,.int .i64 x] 174)).heap.size):=by show _<_;simp
 clear h hA hbx hvx
 obtain⟨g1,g2⟩:=f1 (by simp)
 clear f1 f2 f3 f4 f5
 go_enter Tryz.func117,Tryz.ntmps117
 go_wp2_with fail
 refine(read_at bt B t tv sv kv pv x 3 _ (unhide H0) (by omega) (by omega) (by have:=HL.out.1.1;omega) (by have:=HL.out.1.2;omega) (by have:=HL.out.2.1;omega)).mono ?_
 rintro e w1 ⟨rfl,kv1,h1,b1,f1⟩
 have H1:=hide h1
 have B1:=hide (B0.out.trans b1)
 have F1:=hide (F0.out.trans f1)
 have FF1:=hide (FF0.out.trans f1)
 have bl1:=FF1.out.same wr.heap.size S0.out HBX.out HVX.out
 have y1:=(World.cell?_of_block (a:=⟨wr.heap.size,1,none⟩) bl1).trans X0.out
 have sz1:wr.heap.size<w1.heap.size:=World.block_lt_of_cell? _ _ y1
 clear h1 b1 f1 bl1
 go_wp2_with fail
 go_end0
 exact⟨rfl,sv,kv1,pv,(unhide H1),B1.out,F1.out⟩
theorem field_17 (bt B:Nat)(t:TD)(tv sv kv pv:Value)(x:Int)(wr:World)(h:TcW bt B t tv sv kv pv wr)(hlen:TdLen t)(hf:FldFits 17 x t.types.length) :
  Calls Tryz.prog 117 #[.pointer (some ⟨bt,0,none⟩),.agg #[.int .i64 17,.int .i64 x]] wr (FldPost bt B (fieldT 17 x t) tv sv kv pv wr):=by
 obtain⟨l1,l2,l3,l4⟩:=hlen
 obtain⟨f1,f2,f3,f4,f5⟩:=hf
 have HL:=hide (And.intro (And.intro l1 l2) (And.intro l3 l4))
 obtain⟨hbx,hvx⟩:=box_apart h
 have HBX:=hide hbx
 have HVX:=hide hvx
 have hA:Below wr.heap.size wr (wr.alloc (.cells #[.int .i64 17,.int .i64 x] 174)):=(Below.refl _ _).alloc (Nat.le_refl _) _
 have H0:=hide (h.below hA)
 have B0:Hid (Below B wr (wr.alloc (.cells #[.int .i64 17,.int .i64 x] 174))):=hA.mono (by have:=h.ge;have:=h.row.lt;omega)
 have F0:Hid (Frm bt [tv,sv,kv,pv] [tv,sv,kv,pv] wr (wr.alloc (.cells #[.int .i64 17,.int .i64 x] 174))):=Frm.of_below hA
 have FF0:=hide (Frm.refl bt [tv,sv,kv,pv] (wr.alloc (.cells #[.int .i64 17,.int .i64 x] 174)))
 have X0:Hid ((wr.alloc (.cells #[.int .i64 17,.int .i64 x] 174)).cell? ⟨wr.heap.size,1,none⟩=some (.int .i64 x)):=by show _=_;simp[go_sem]
 have S0:Hid (wr.heap.size<(wr.alloc (.cells #[.int .i64 17,.int .i64 x] 174)).heap.size):=by show _<_;simp
 clear h hA hbx hvx
 obtain⟨g1,g2⟩:=f3 (by simp)
 obtain⟨R,rfl⟩:=Int.eq_ofNat_of_zero_le g1
 have HE:Hid (((R:Nat):Int).toNat=R):=rfl
 clear f1 f2 f3 f4 f5
 go_enter Tryz.func117,Tryz.ntmps117
 go_wp2_with fail
 refine(see_at bt B t tv sv kv pv _ (R) 1 _ (by push_cast;rfl) (unhide H0) (by show R<t.types.length;omega) (by show t.types.length≤250;have:=HL.out.1.1;omega) (by show t.seen.length≤1000;have:=HL.out.1.2;omega)).mono ?_
 rintro e w1 ⟨rfl,sv1,h1,b1,f1⟩
 have H1:=hide h1
 have B1:=hide (B0.out.trans b1)
 have F1:=hide (F0.out.trans f1)
 have FF1:=hide (FF0.out.trans f1)
 have bl1:=FF1.out.same wr.heap.size S0.out HBX.out HVX.out
 have y1:=(World.cell?_of_block (a:=⟨wr.heap.size,1,none⟩) bl1).trans X0.out
 have sz1:wr.heap.size<w1.heap.size:=World.block_lt_of_cell? _ _ y1
 clear h1 b1 f1 bl1
 go_wp2_with fail
 refine(see_at bt B (seeT (R) 1 (t)) tv sv1 kv pv _ (R+1) 1 _ (by push_cast;rfl) (unhide H1) (by show R+1<t.types.length;omega) (by show t.types.length≤250;have:=HL.out.1.1;omega) (by show(t.seen++[_]).length≤1000;simp;have:=HL.out.1.2;omega)).mono ?_
 rintro e w2 ⟨rfl,sv2,h2,b2,f2⟩
 have H2:=hide h2
 have B2:=hide (B1.out.trans b2)
 have F2:=hide (F1.out.trans f2)
 have FF2:=hide (FF1.out.trans f2)
 have bl2:=FF2.out.same wr.heap.size S0.out HBX.out HVX.out
 have y2:=(World.cell?_of_block (a:=⟨wr.heap.size,1,none⟩) bl2).trans X0.out
 have sz2:wr.heap.size<w2.heap.size:=World.block_lt_of_cell? _ _ y2
 clear h2 b2 f2 bl2 y1 sz1
 go_wp2_with fail
 go_end0
 exact⟨rfl,sv2,kv,pv,(unhide H2),B2.out,F2.out⟩
theorem field_18 (bt B:Nat)(t:TD)(tv sv kv pv:Value)(x:Int)(wr:World)(h:TcW bt B t tv sv kv pv wr)(hlen:TdLen t)(hf:FldFits 18 x t.types.length) :
  Calls Tryz.prog 117 #[.pointer (some ⟨bt,0,none⟩),.agg #[.int .i64 18,.int .i64 x]] wr (FldPost bt B (fieldT 18 x t) tv sv kv pv wr):=by
 obtain⟨l1,l2,l3,l4⟩:=hlen
 obtain⟨f1,f2,f3,f4,f5⟩:=hf
 have HL:=hide (And.intro (And.intro l1 l2) (And.intro l3 l4))
 obtain⟨hbx,hvx⟩:=box_apart h
 have HBX:=hide hbx
 have HVX:=hide hvx
 have hA:Below wr.heap.size wr (wr.alloc (.cells #[.int .i64 18,.int .i64 x] 174)):=(Below.refl _ _).alloc (Nat.le_refl _) _
 have H0:=hide (h.below hA)
 have B0:Hid (Below B wr (wr.alloc (.cells #[.int .i64 18,.int .i64 x] 174))):=hA.mono (by have:=h.ge;have:=h.row.lt;omega)
 have F0:Hid (Frm bt [tv,sv,kv,pv] [tv,sv,kv,pv] wr (wr.alloc (.cells #[.int .i64 18,.int .i64 x] 174))):=Frm.of_below hA
 have FF0:=hide (Frm.refl bt [tv,sv,kv,pv] (wr.alloc (.cells #[.int .i64 18,.int .i64 x] 174)))
 have X0:Hid ((wr.alloc (.cells #[.int .i64 18,.int .i64 x] 174)).cell? ⟨wr.heap.size,1,none⟩=some (.int .i64 x)):=by show _=_;simp[go_sem]
 have S0:Hid (wr.heap.size<(wr.alloc (.cells #[.int .i64 18,.int .i64 x] 174)).heap.size):=by show _<_;simp
 clear h hA hbx hvx
 obtain⟨g1,g2⟩:=f4 rfl
 obtain⟨R,rfl⟩:=Int.eq_ofNat_of_zero_le g1
 have HE:Hid (((R:Nat):Int).toNat=R):=rfl
 clear f1 f2 f3 f4 f5
 go_enter Tryz.func117,Tryz.ntmps117
 go_wp2_with fail
 refine(see_at bt B t tv sv kv pv _ (R) 1 _ (by push_cast;rfl) (unhide H0) (by show R<t.types.length;omega) (by show t.types.length≤250;have:=HL.out.1.1;omega) (by show t.seen.length≤1000;have:=HL.out.1.2;omega)).mono ?_
 rintro e w1 ⟨rfl,sv1,h1,b1,f1⟩
 have H1:=hide h1
 have B1:=hide (B0.out.trans b1)
 have F1:=hide (F0.out.trans f1)
 have FF1:=hide (FF0.out.trans f1)
 have bl1:=FF1.out.same wr.heap.size S0.out HBX.out HVX.out
 have y1:=(World.cell?_of_block (a:=⟨wr.heap.size,1,none⟩) bl1).trans X0.out
 have sz1:wr.heap.size<w1.heap.size:=World.block_lt_of_cell? _ _ y1
 clear h1 b1 f1 bl1
 go_wp2_with fail
 refine(see_at bt B (seeT (R) 1 (t)) tv sv1 kv pv _ (R+1) 1 _ (by push_cast;rfl) (unhide H1) (by show R+1<t.types.length;omega) (by show t.types.length≤250;have:=HL.out.1.1;omega) (by show(t.seen++[_]).length≤1000;simp;have:=HL.out.1.2;omega)).mono ?_
 rintro e w2 ⟨rfl,sv2,h2,b2,f2⟩
 have H2:=hide h2
 have B2:=hide (B1.out.trans b2)
 have F2:=hide (F1.out.trans f2)
 have FF2:=hide (FF1.out.trans f2)
 have bl2:=FF2.out.same wr.heap.size S0.out HBX.out HVX.out
 have y2:=(World.cell?_of_block (a:=⟨wr.heap.size,1,none⟩) bl2).trans X0.out
 have sz2:wr.heap.size<w2.heap.size:=World.block_lt_of_cell? _ _ y2
 clear h2 b2 f2 bl2 y1 sz1
 go_wp2_with fail
 refine(see_at bt B (seeT (R+1) 1 (seeT (R) 1 (t))) tv sv2 kv pv _ (R+2) 1 _ (by push_cast;rfl) (unhide H2) (by show R+2<t.types.length;omega) (by show t.types.length≤250;have:=HL.out.1.1;omega) (by show(t.seen++[_]++[_]).length≤1000;simp;have:=HL.out.1.2;omega)).mono ?_
 rintro e w3 ⟨rfl,sv3,h3,b3,f3⟩
 have H3:=hide h3
 have B3:=hide (B2.out.trans b3)
 have F3:=hide (F2.out.trans f3)
 have FF3:=hide (FF2.out.trans f3)
 have bl3:=FF3.out.same wr.heap.size S0.out HBX.out HVX.out
 have y3:=(World.cell?_of_block (a:=⟨wr.heap.size,1,none⟩) bl3).trans X0.out
 have sz3:wr.heap.size<w3.heap.size:=World.block_lt_of_cell? _ _ y3
 clear h3 b3 f3 bl3 y2 sz2
 go_wp2_with fail
 go_end0
 exact⟨rfl,sv3,kv,pv,(unhide H3),B3.out,F3.out⟩
theorem field_see (r:Nat)(hr:r=14∨r=15∨r=16)(bt B:Nat)(t:TD)(tv sv kv pv:Value)(x:Int)(wr:World)(h:TcW bt B t tv sv kv pv wr)(hlen:TdLen t)(hf:FldFits r x t.types.length) :
  Calls Tryz.prog 117 #[.pointer (some ⟨bt,0,none⟩),.agg #[.int .i64 (r:Int),.int .i64 x]] wr (FldPost bt B (fieldT r x t) tv sv kv pv wr):=by
 obtain⟨l1,l2,l3,l4⟩:=hlen
 obtain⟨f1,f2,f3,f4,f5⟩:=hf
 have HL:=hide (And.intro (And.intro l1 l2) (And.intro l3 l4))
 obtain⟨hbx,hvx⟩:=box_apart h
 have HBX:=hide hbx
 have HVX:=hide hvx
 have hA:Below wr.heap.size wr (wr.alloc (.cells #[.int .i64 (r:Int),.int .i64 x] 174)):=(Below.refl _ _).alloc (Nat.le_refl _) _
 have H0:=hide (h.below hA)
 have B0:Hid (Below B wr (wr.alloc (.cells #[.int .i64 (r:Int),.int .i64 x] 174))):=hA.mono (by have:=h.ge;have:=h.row.lt;omega)
 have F0:Hid (Frm bt [tv,sv,kv,pv] [tv,sv,kv,pv] wr (wr.alloc (.cells #[.int .i64 (r:Int),.int .i64 x] 174))):=Frm.of_below hA
 have FF0:=hide (Frm.refl bt [tv,sv,kv,pv] (wr.alloc (.cells #[.int .i64 (r:Int),.int .i64 x] 174)))
 have X0:Hid ((wr.alloc (.cells #[.int .i64 (r:Int),.int .i64 x] 174)).cell? ⟨wr.heap.size,1,none⟩=some (.int .i64 x)):=by show _=_;simp[go_sem]
 have S0:Hid (wr.heap.size<(wr.alloc (.cells #[.int .i64 (r:Int),.int .i64 x] 174)).heap.size):=by show _<_;simp
 clear h hA hbx hvx
 obtain⟨g1,g2⟩:=f2 (by omega)
 obtain⟨R,rfl⟩:=Int.eq_ofNat_of_zero_le g1
 have HE:Hid (((R:Nat):Int).toNat=R):=rfl
 clear f1 f2 f3 f4 f5
 rcases hr with rfl | rfl | rfl
 all_goals
  go_enter Tryz.func117,Tryz.ntmps117
  go_wp2_with fail
  refine(see_at bt B t tv sv kv pv _ (R) _ _ (by push_cast;rfl) (unhide H0) (by show R<t.types.length;omega) (by show t.types.length≤250;have:=HL.out.1.1;omega) (by show t.seen.length≤1000;have:=HL.out.1.2;omega)).mono ?_
  rintro e w1 ⟨rfl,sv1,h1,b1,f1⟩
  have H1:=hide h1
  have B1:=hide (B0.out.trans b1)
  have F1:=hide (F0.out.trans f1)
  have FF1:=hide (FF0.out.trans f1)
  have bl1:=FF1.out.same wr.heap.size S0.out HBX.out HVX.out
  have y1:=(World.cell?_of_block (a:=⟨wr.heap.size,1,none⟩) bl1).trans X0.out
  have sz1:wr.heap.size<w1.heap.size:=World.block_lt_of_cell? _ _ y1
  clear h1 b1 f1 bl1
  go_wp2_with fail
  go_end0
  exact⟨rfl,sv1,kv,pv,(unhide H1),B1.out,F1.out⟩
theorem field_put (r:Nat)(hr:r=20∨r=21∨r=22∨r=23)(bt B:Nat)(t:TD)(tv sv kv pv:Value)(x:Int)(wr:World)(h:TcW bt B t tv sv kv pv wr)(hlen:TdLen t)(hf:FldFits r x t.types.length) :
  Calls Tryz.prog 117 #[.pointer (some ⟨bt,0,none⟩),.agg #[.int .i64 (r:Int),.int .i64 x]] wr (FldPost bt B (fieldT r x t) tv sv kv pv wr):=by
 obtain⟨l1,l2,l3,l4⟩:=hlen
 obtain⟨f1,f2,f3,f4,f5⟩:=hf
 have HL:=hide (And.intro (And.intro l1 l2) (And.intro l3 l4))
 obtain⟨hbx,hvx⟩:=box_apart h
 have HBX:=hide hbx
 have HVX:=hide hvx
 have hA:Below wr.heap.size wr (wr.alloc (.cells #[.int .i64 (r:Int),.int .i64 x] 174)):=(Below.refl _ _).alloc (Nat.le_refl _) _
 have H0:=hide (h.below hA)
 have B0:Hid (Below B wr (wr.alloc (.cells #[.int .i64 (r:Int),.int .i64 x] 174))):=hA.mono (by have:=h.ge;have:=h.row.lt;omega)
 have F0:Hid (Frm bt [tv,sv,kv,pv] [tv,sv,kv,pv] wr (wr.alloc (.cells #[.int .i64 (r:Int),.int .i64 x] 174))):=Frm.of_below hA
 have FF0:=hide (Frm.refl bt [tv,sv,kv,pv] (wr.alloc (.cells #[.int .i64 (r:Int),.int .i64 x] 174)))
 have X0:Hid ((wr.alloc (.cells #[.int .i64 (r:Int),.int .i64 x] 174)).cell? ⟨wr.heap.size,1,none⟩=some (.int .i64 x)):=by show _=_;simp[go_sem]
 have S0:Hid (wr.heap.size<(wr.alloc (.cells #[.int .i64 (r:Int),.int .i64 x] 174)).heap.size):=by show _<_;simp
 clear h hA hbx hvx
 have g1:=f5 (by omega)
 obtain⟨R,rfl⟩:=Int.eq_ofNat_of_zero_le g1
 have HE:Hid (((R:Nat):Int).toNat=R):=rfl
 clear f1 f2 f3 f4 f5
 rcases hr with rfl | rfl | rfl | rfl
 all_goals
  go_enter Tryz.func117,Tryz.ntmps117
  go_wp2_with fail
  refine(put_at bt B t tv sv kv pv _ (R) _ _ (by push_cast;rfl) (unhide H0) (by show t.puts.length≤1000;have:=HL.out.2.2;omega)).mono ?_
  rintro e w1 ⟨rfl,pv1,h1,b1,f1⟩
  have H1:=hide h1
  have B1:=hide (B0.out.trans b1)
  have F1:=hide (F0.out.trans f1)
  have FF1:=hide (FF0.out.trans f1)
  have bl1:=FF1.out.same wr.heap.size S0.out HBX.out HVX.out
  have y1:=(World.cell?_of_block (a:=⟨wr.heap.size,1,none⟩) bl1).trans X0.out
  have sz1:wr.heap.size<w1.heap.size:=World.block_lt_of_cell? _ _ y1
  clear h1 b1 f1 bl1
  go_wp2_with fail
  go_end0
  exact⟨rfl,sv,kv,pv1,(unhide H1),B1.out,F1.out⟩
theorem field_none (r:Nat)(hr:r=0∨r=1∨r=2∨r=3∨r=4∨r=5∨r=6∨r=7∨r=8∨r=9∨r=10∨r=11)(bt B:Nat)(t:TD)(tv sv kv pv:Value)(x:Int)(wr:World)(h:TcW bt B t tv sv kv pv wr)(hlen:TdLen t)(hf:FldFits r x t.types.length) :
  Calls Tryz.prog 117 #[.pointer (some ⟨bt,0,none⟩),.agg #[.int .i64 (r:Int),.int .i64 x]] wr (FldPost bt B (fieldT r x t) tv sv kv pv wr):=by
 obtain⟨l1,l2,l3,l4⟩:=hlen
 obtain⟨f1,f2,f3,f4,f5⟩:=hf
 have HL:=hide (And.intro (And.intro l1 l2) (And.intro l3 l4))
 obtain⟨hbx,hvx⟩:=box_apart h
 have HBX:=hide hbx
 have HVX:=hide hvx
 have hA:Below wr.heap.size wr (wr.alloc (.cells #[.int .i64 (r:Int),.int .i64 x] 174)):=(Below.refl _ _).alloc (Nat.le_refl _) _
 have H0:=hide (h.below hA)
 have B0:Hid (Below B wr (wr.alloc (.cells #[.int .i64 (r:Int),.int .i64 x] 174))):=hA.mono (by have:=h.ge;have:=h.row.lt;omega)
 have F0:Hid (Frm bt [tv,sv,kv,pv] [tv,sv,kv,pv] wr (wr.alloc (.cells #[.int .i64 (r:Int),.int .i64 x] 174))):=Frm.of_below hA
 have FF0:=hide (Frm.refl bt [tv,sv,kv,pv] (wr.alloc (.cells #[.int .i64 (r:Int),.int .i64 x] 174)))
 have X0:Hid ((wr.alloc (.cells #[.int .i64 (r:Int),.int .i64 x] 174)).cell? ⟨wr.heap.size,1,none⟩=some (.int .i64 x)):=by show _=_;simp[go_sem]
 have S0:Hid (wr.heap.size<(wr.alloc (.cells #[.int .i64 (r:Int),.int .i64 x] 174)).heap.size):=by show _<_;simp
 clear h hA hbx hvx
 clear f1 f2 f3 f4 f5
 rcases hr with rfl | rfl | rfl | rfl | rfl | rfl | rfl | rfl | rfl | rfl | rfl | rfl
 all_goals
  go_enter Tryz.func117,Tryz.ntmps117
  go_wp2_with fail
  go_end0
  exact⟨rfl,sv,kv,pv,unhide H0,B0.out,F0.out⟩
theorem field_19 (bt B:Nat)(t:TD)(tv sv kv pv:Value)(x:Int)(wr:World)(h:TcW bt B t tv sv kv pv wr)(hlen:TdLen t)(hf:FldFits 19 x t.types.length) :
  Calls Tryz.prog 117 #[.pointer (some ⟨bt,0,none⟩),.agg #[.int .i64 19,.int .i64 x]] wr (FldPost bt B (fieldT 19 x t) tv sv kv pv wr):=by
 obtain⟨l1,l2,l3,l4⟩:=hlen
 obtain⟨f1,f2,f3,f4,f5⟩:=hf
 have HL:=hide (And.intro (And.intro l1 l2) (And.intro l3 l4))
 obtain⟨hbx,hvx⟩:=box_apart h
 have HBX:=hide hbx
 have HVX:=hide hvx
 have hA:Below wr.heap.size wr (wr.alloc (.cells #[.int .i64 19,.int .i64 x] 174)):=(Below.refl _ _).alloc (Nat.le_refl _) _
 have H0:=hide (h.below hA)
 have B0:Hid (Below B wr (wr.alloc (.cells #[.int .i64 19,.int .i64 x] 174))):=hA.mono (by have:=h.ge;have:=h.row.lt;omega)
 have F0:Hid (Frm bt [tv,sv,kv,pv] [tv,sv,kv,pv] wr (wr.alloc (.cells #[.int .i64 19,.int .i64 x] 174))):=Frm.of_below hA
 have FF0:=hide (Frm.refl bt [tv,sv,kv,pv] (wr.alloc (.cells #[.int .i64 19,.int .i64 x] 174)))
 have X0:Hid ((wr.alloc (.cells #[.int .i64 19,.int .i64 x] 174)).cell? ⟨wr.heap.size,1,none⟩=some (.int .i64 x)):=by show _=_;simp[go_sem]
 have S0:Hid (wr.heap.size<(wr.alloc (.cells #[.int .i64 19,.int .i64 x] 174)).heap.size):=by show _<_;simp
 clear h hA hbx hvx
 obtain⟨g1,g2⟩:=f3 (by simp)
 obtain⟨R,rfl⟩:=Int.eq_ofNat_of_zero_le g1
 have HE:Hid (((R:Nat):Int).toNat=R):=rfl
 clear f1 f2 f3 f4 f5
 go_enter Tryz.func117,Tryz.ntmps117
 go_wp2_with fail
 refine(see_at bt B t tv sv kv pv _ (R) 1 _ (by push_cast;rfl) (unhide H0) (by show R<t.types.length;omega) (by show t.types.length≤250;have:=HL.out.1.1;omega) (by show t.seen.length≤1000;have:=HL.out.1.2;omega)).mono ?_
 rintro e w1 ⟨rfl,sv1,h1,b1,f1⟩
 have H1:=hide h1
 have B1:=hide (B0.out.trans b1)
 have F1:=hide (F0.out.trans f1)
 have FF1:=hide (FF0.out.trans f1)
 have bl1:=FF1.out.same wr.heap.size S0.out HBX.out HVX.out
 have y1:=(World.cell?_of_block (a:=⟨wr.heap.size,1,none⟩) bl1).trans X0.out
 have sz1:wr.heap.size<w1.heap.size:=World.block_lt_of_cell? _ _ y1
 clear h1 b1 f1 bl1
 go_wp2_with fail
 refine(see_at bt B (seeT (R) 1 (t)) tv sv1 kv pv _ (R+1) 0 _ (by push_cast;rfl) (unhide H1) (by show R+1<t.types.length;omega) (by show t.types.length≤250;have:=HL.out.1.1;omega) (by show(t.seen++[_]).length≤1000;simp;have:=HL.out.1.2;omega)).mono ?_
 rintro e w2 ⟨rfl,sv2,h2,b2,f2⟩
 have H2:=hide h2
 have B2:=hide (B1.out.trans b2)
 have F2:=hide (F1.out.trans f2)
 have FF2:=hide (FF1.out.trans f2)
 have bl2:=FF2.out.same wr.heap.size S0.out HBX.out HVX.out
 have y2:=(World.cell?_of_block (a:=⟨wr.heap.size,1,none⟩) bl2).trans X0.out
 have sz2:wr.heap.size<w2.heap.size:=World.block_lt_of_cell? _ _ y2
 clear h2 b2 f2 bl2 y1 sz1
 obtain⟨i0,hi,hz0,hz1,hz2⟩:=info_of info_i
 obtain⟨c0,c1,c2,c3,c4⟩:=(unhide H2).cells
 have hl2:=(unhide H2).row.lt
 have hTL:Hid ((natI t.taken).length≤1048576):=by show _≤_;rw[natI_len];have:=HL.out.2.1;omega
 have HGE:=hide (unhide H2).ge
 clear c0 c1 c3 c4
 have hN:∀ j u,([.int .i64 (R:Int)]:List Value)[j]? = some u→(w2.drew.alloc (.cells #[.int .i64 (R:Int)] 3)).cell? ((⟨w2.heap.size,0,none⟩:Addr).add j)=some u:=fun j u hj=>by
  match j,hj with
  | 0,hj=>simp at hj;subst hj;simp[Addr.add,go_sem]
 have HN1:=hide hN
 have OWN:Hid ((w2.drew.alloc (.cells #[.int .i64 (R:Int)] 3)).ownsRow B 3 1 kv (natI t.taken).length ((natI t.taken).map (Value.int .i64))):=(show OwnI w2.drew B kv (natI t.taken)from(unhide H2).ta).alloc _
 have L1:Hid ((natI t.taken).length+1≤maxLen):=by show _≤_;have:=hTL.out;unfold maxLen;omega
 have L2:Hid (((natI t.taken).length+1) * 8≤140737488355328):=by show _≤_;have:=hTL.out;omega
 have L3:Hid (B≤(w2.drew.alloc (.cells #[.int .i64 (R:Int)] 3)).heap.size):=by show _≤_;have h1:=HGE.out;simp;omega
 have L4:Hid ((w2.drew.alloc (.cells #[.int .i64 (R:Int)] 3)).heap.size=w2.heap.size+1):=by show _=_;simp
 have NX:Hid (∀ w3,(w2.drew.alloc (.cells #[.int .i64 (R:Int)] 3)).grownBy w3 kv.ownBlock→w3.cell? ⟨wr.heap.size,1,none⟩=some (.int .i64 (R:Int))∧w3.cell? ⟨bt,2,none⟩=some kv∧w3.frozen? ⟨bt,2,none⟩=false∧bt<w3.heap.size∧wr.heap.size<w3.heap.size):=fun w3 hg=>by
  have b1:w3.heap[bt]? = w2.heap[bt]?:=by
   rw[hg.block bt (by rw[L4.out];omega) (fun e=>(unhide H2).bk e.symm)]
   exact Below.heap_alloc w2.drew _ bt hl2
  have b2:w3.heap[wr.heap.size]? = w2.heap[wr.heap.size]?:=by
   rw[hg.block wr.heap.size (by rw[L4.out];omega) (fun e=>(FF2.out.new wr.heap.size S0.out HVX.out) kv (by simp) e.symm)]
   exact Below.heap_alloc w2.drew _ _ sz2
  have s2:w3.cell? ⟨bt,2,none⟩=some kv:=(World.cell?_of_block (a:=⟨bt,2,none⟩) b1).trans c2
  have s1:w3.cell? ⟨wr.heap.size,1,none⟩=some (.int .i64 (R:Int)):=(World.cell?_of_block (a:=⟨wr.heap.size,1,none⟩) b2).trans y2
  exact⟨s1,s2,((unhide H2).row.of_block b1).frozen 2,World.block_lt_of_cell? _ _ s2,World.block_lt_of_cell? _ _ s1⟩
 have hxb:¬(wr.heap.size=bt):=HBX.out
 have hxb2:¬(bt=wr.heap.size):=fun e=>HBX.out e.symm
 clear hN
 go_upto_region 22 with fail
 go_region_law ((refine step_append_lies _ (by rfl) (.tmp 78) (.tmp 81) 54 (by rfl) B 3 i0 (.int .i64 0) 1 8 Tryz.underlying54 hi hz0 hz1 hz2 rfl (by decide) kv _ _ rfl (unhide OWN) ⟨w2.heap.size,0,none⟩ 1 1 [.int .i64 (R:Int)] rfl rfl (unhide HN1) (by intro u hu;simp at hu;subst hu;rfl) (by decide) L1.out L2.out L3.out (w2.heap.size+1) L4.out ?_;intro g3 cap3 w3 hown3 hgrow3 hat3 hlt3;obtain⟨n1,n2,n3,n4,n5⟩:=unhide NX _ hgrow3))
 all_goals
  have O3:Hid (OwnI w3 B (.slice (some ⟨g3,0,none⟩) ((natI t.taken).length+1) cap3) (natI (t.taken++[R]))):=by show OwnI _ _ _ _;rw[natI_push];exact OwnI.push hown3
  have hD:Frm bt [tv,sv2,kv,pv] [tv,sv2,kv,pv] w2 w2.drew:=Frm.of_below ((Below.refl _ _).drew)
  have HD2:=(unhide H2).below (w2:=w2.drew) ((Below.refl _ _).drew)
  obtain⟨FIN,BFN,RFN⟩:=HD2.taken (x:=R) rfl hgrow3 (unhide O3) (by simpa using hat3)
  replace BFN:=(show Below B w2 w2.drew from(Below.refl _ _).drew).trans BFN
  replace RFN:=hD.trans RFN
  have H3:=hide FIN
  have B3:=hide (B2.out.trans BFN)
  have F3:=hide (F2.out.trans RFN)
  have FF3:=hide (FF2.out.trans RFN)
  have bl3:=FF3.out.same wr.heap.size S0.out HBX.out HVX.out
  have y3:=(World.cell?_of_block (a:=⟨wr.heap.size,1,none⟩) bl3).trans X0.out
  have sz3:wr.heap.size<(w3.setCell ⟨bt,2,none⟩ (.slice (some ⟨g3,0,none⟩) ((natI t.taken).length+1) cap3)).heap.size:=World.block_lt_of_cell? _ _ y3
  have HY3:=hide y3
  have HZ3:=hide sz3
  clear FIN BFN RFN hown3 hgrow3 hat3 O3 c2 bl3 y3 sz3 y2 sz2 n1 n2 n3 n4 n5 NX OWN HN1 L1 L2 L3 L4 hD HD2
  generalize w3.setCell ⟨bt,2,none⟩ (.slice (some ⟨g3,0,none⟩) ((natI t.taken).length+1) cap3)=w4 at *
  have y3:=HY3.out
  have sz3:=HZ3.out
  go_wp2_with fail
  refine(put_at bt B (takeT R (seeT (R+1) 0 (seeT R 1 t))) tv sv2 _ pv _ (R+1) 1 _ (by push_cast;rfl) (unhide H3) (by show t.puts.length≤1000;have:=HL.out.2.2;omega)).mono ?_
  rintro e w5 ⟨rfl,pv5,h5,b5,f5⟩
  have H5:=hide h5
  have B5:=hide (B3.out.trans b5)
  have F5:=hide (F3.out.trans f5)
  clear h5 b5 f5 y3 sz3
  go_wp2_with fail
  go_end0
  exact⟨rfl,sv2,_,pv5,unhide H5,B5.out,F5.out⟩
theorem field_any (r:Nat)(hr:r≤23)(bt B:Nat)(t:TD)(tv sv kv pv:Value)(x:Int)(wr:World)(h:TcW bt B t tv sv kv pv wr)(hlen:TdLen t)(hf:FldFits r x t.types.length) :
  Calls Tryz.prog 117 #[.pointer (some ⟨bt,0,none⟩),.agg #[.int .i64 (r:Int),.int .i64 x]] wr (FldPost bt B (fieldT r x t) tv sv kv pv wr):=by
 have hc:r=0∨r=1∨r=2∨r=3∨r=4∨r=5∨r=6∨r=7∨r=8∨r=9∨r=10∨r=11∨r=12∨r=13∨r=14∨r=15∨r=16∨r=17∨r=18∨r=19∨r=20∨r=21∨r=22∨r=23:=by omega
 rcases hc with rfl | rfl | rfl | rfl | rfl | rfl | rfl | rfl | rfl | rfl | rfl | rfl | rfl | rfl | rfl | rfl | rfl | rfl | rfl | rfl | rfl | rfl | rfl | rfl
 ·exact field_none 0 (by omega) bt B t tv sv kv pv x wr h hlen hf
 ·exact field_none 1 (by omega) bt B t tv sv kv pv x wr h hlen hf
 ·exact field_none 2 (by omega) bt B t tv sv kv pv x wr h hlen hf
 ·exact field_none 3 (by omega) bt B t tv sv kv pv x wr h hlen hf
 ·exact field_none 4 (by omega) bt B t tv sv kv pv x wr h hlen hf
 ·exact field_none 5 (by omega) bt B t tv sv kv pv x wr h hlen hf
 ·exact field_none 6 (by omega) bt B t tv sv kv pv x wr h hlen hf
 ·exact field_none 7 (by omega) bt B t tv sv kv pv x wr h hlen hf
 ·exact field_none 8 (by omega) bt B t tv sv kv pv x wr h hlen hf
 ·exact field_none 9 (by omega) bt B t tv sv kv pv x wr h hlen hf
 ·exact field_none 10 (by omega) bt B t tv sv kv pv x wr h hlen hf
 ·exact field_none 11 (by omega) bt B t tv sv kv pv x wr h hlen hf
 ·exact field_12 bt B t tv sv kv pv x wr h hlen hf
 ·exact field_13 bt B t tv sv kv pv x wr h hlen hf
 ·exact field_see 14 (by omega) bt B t tv sv kv pv x wr h hlen hf
 ·exact field_see 15 (by omega) bt B t tv sv kv pv x wr h hlen hf
 ·exact field_see 16 (by omega) bt B t tv sv kv pv x wr h hlen hf
 ·exact field_17 bt B t tv sv kv pv x wr h hlen hf
 ·exact field_18 bt B t tv sv kv pv x wr h hlen hf
 ·exact field_19 bt B t tv sv kv pv x wr h hlen hf
 ·exact field_put 20 (by omega) bt B t tv sv kv pv x wr h hlen hf
 ·exact field_put 21 (by omega) bt B t tv sv kv pv x wr h hlen hf
 ·exact field_put 22 (by omega) bt B t tv sv kv pv x wr h hlen hf
 ·exact field_put 23 (by omega) bt B t tv sv kv pv x wr h hlen hf
theorem eql_ints (w:World)(a:Option Addr)(n c:Nat):(binOp .eql 54 (.slice a n c) (.slice none 0 0)).run Tryz.prog w=.ok (.bool a.isNone) w:=Go.Lib.run_eql_slice_nil w 54 3 a n c 0 0 Tryz.underlying54
def OwnRet (l:List Int)(w:World)(e:Ending)(w':World):Prop:=∃ v,e=.returned v∧OwnI w' w.heap.size v l∧Below w.heap.size w w'
theorem clone_any (a:Option Addr)(l:List Int)(c:Nat)(S:Nat→Prop)(w:World)(hs:IntsAt w S a l)(hB:∀ b,S b→b<w.heap.size)(hl:l.length≤1048576) :
  Calls Tryz.prog 115 #[.slice a l.length c] w (OwnRet l w):=by
 obtain⟨i0,hi,hz0,hz1,hz2⟩:=info_of info_i
 have hq:=eql_ints
 cases a with
 | none=>
  have h0:l.length=0:=by
   by_cases h:0<l.length
   ·obtain⟨b,off,e,_⟩:=hs.2 h;cases e
   ·omega
  obtain rfl:l=[]:=List.eq_nil_of_length_eq_zero h0
  clear hs hB hl h0
  go_enter Tryz.func115,Tryz.ntmps115
  go_wp2_with fail
  go_ret
  exact⟨_,rfl,World.ownsRow_nil _ _ _ _,Below.refl _ _⟩
 | some ad=>
  by_cases h0:0<l.length
  ·obtain⟨b,off,e,hb,hcc⟩:=hs.2 h0
   cases e
   have hbl:=hB b hb
   have HCC:=hide hcc
   clear hcc hs
   have OWN:Hid ((w.alloc (.cells #[] 3)).ownsRow w.heap.size 3 1 (.slice (some ⟨w.heap.size,0,none⟩) 0 0) 0 []):=⟨rfl,.inr ⟨w.heap.size,0,#[],rfl,Nat.le_refl _,Go.Deep.blk_alloc_new _ _,Nat.le_refl _,by unfold maxLen;omega,rfl,rfl⟩⟩
   have HN:Hid (∀ j u,(l.map (Value.int .i64))[j]? = some u→(w.alloc (.cells #[] 3)).cell? ((⟨b,off,none⟩:Addr).add j)=some u):=fun j u hj=>by
    rw[List.getElem?_map]at hj
    by_cases hjl:j<l.length
    ·rw[List.getElem?_eq_getElem hjl]at hj
     have h1:=unhide HCC j hjl
     rw[List.getElem?_eq_getElem hjl]at h1
     have e:(⟨b,off,none⟩:Addr).add j=⟨b,off+j,none⟩:=by simp[Addr.add]
     rw[e,Below.cell (B:=w.heap.size) ((Below.refl _ _).alloc (Nat.le_refl _) _) (p:=⟨b,off+j,none⟩) hbl,h1]
     exact hj
    ·rw[List.getElem?_eq_none (by omega)]at hj;cases hj
   go_enter Tryz.func115,Tryz.ntmps115
   go_wp2_with (first
    | (at_builtin;refine wpList_append_lies _ rfl _ _ 54 rfl w.heap.size 3 i0 (.int .i64 0) 1 8 Tryz.underlying54 hi hz0 hz1 hz2 rfl (by decide) (.slice (some ⟨w.heap.size,0,none⟩) 0 0) 0 [] rfl (unhide OWN) ⟨b,off,none⟩ l.length c (l.map (Value.int .i64)) rfl (by simp) (unhide HN) ?c2 h0 ?c3 ?c4 ?c5 (w.heap.size+1) (by simp) ?_)
    | go_in)
   all_goals try (case c2=>intro u hu;rw[List.mem_map]at hu;obtain⟨x,_,rfl⟩:=hu;rfl)
   all_goals try (case c3=>unfold maxLen;omega)
   all_goals try (case c4=>omega)
   all_goals try (case c5=>simp)
   intro g3 cap3 w3 hown3 hgrow3 hat3 hlt3
   have O3:Hid (OwnI w3 w.heap.size (.slice (some ⟨g3,0,none⟩) l.length cap3) l):=by
    show OwnI _ _ _ _
    unfold OwnI
    first | exact hown3 | (rw[Nat.zero_add]at hown3;exact hown3)
   have B3:Hid (Below w.heap.size w w3):=((Below.refl _ _).alloc (Nat.le_refl _) _).grown hgrow3 (by simp) (fun k hk=>by have:w.heap.size=k:=Option.some.inj hk;omega)
   clear hown3 hgrow3 hat3 OWN HN
   go_wp2_with fail
   go_ret
   exact⟨_,rfl,O3.out,B3.out⟩
  ·obtain rfl:l=[]:=List.eq_nil_of_length_eq_zero (by omega)
   clear hs hB hl h0
   go_enter Tryz.func115,Tryz.ntmps115
   go_wp2_with fail
   go_ret
   exact⟨_,rfl,⟨rfl,.inr ⟨w.heap.size,0,#[],rfl,Nat.le_refl _,Go.Deep.blk_alloc_new _ _,Nat.le_refl _,by unfold maxLen;omega,rfl,rfl⟩⟩,(Below.refl _ _).alloc (Nat.le_refl _) _⟩
theorem highTo_step (g:List GuD)(k:Nat):highTo g (k+1)=if(g[k]?.getD GuD.z).tr then max (highTo g k) (g[k]?.getD GuD.z).keep else highTo g k:=rfl
theorem highestKeep_any (a:Option Addr)(g:List GuD)(c:Nat)(S:Nat→Prop)(w:World)(hs:GusAt w S a g)(hB:∀ b,S b→b<w.heap.size)(hl:g.length≤50) :
  Calls Tryz.prog 119 #[.slice a g.length c] w fun e w'=>e=.returned (.int .i64 (highI g))∧Below w.heap.size w w':=by
 have HS:=hide hs
 have HBB:=hide hB
 clear hs hB
 go_enter Tryz.func119,Tryz.ntmps119
 go_wp2_with fail
 go_loopg [3,8] g.length (fun gg h i wr=>∃ q:Nat,q+gg=g.length∧i=.int .i64 q∧h=.int .i64 (highTo g q)∧Below w.heap.size w wr)
 case atStart=>exact⟨0,by omega,rfl,rfl,Below.refl _ _⟩
 case round=>
  obtain⟨q,hq,rfl,rfl,hw⟩:=hrel
  by_cases hlt:q<g.length
  ·obtain⟨b,off,rfl,hb,hcc⟩:=((unhide HS).same (.of_below hw (unhide HBB))).2 (by omega)
   obtain⟨c0,c1,c2⟩:=hcc q hlt
   have hbl:b<wr.heap.size:=Nat.lt_of_lt_of_le (unhide HBB b hb) hw.size
   have HT:=hide (highTo_step g q)
   clear hcc
   generalize g[q]?.getD GuD.z=u at *
   obtain⟨tr,keep,hand⟩:=u
   dsimp only at *
   have HA:Hid (Below w.heap.size w (wr.alloc (.cells #[.bool tr,.int .i64 keep,.int .i64 hand] 108))):=hw.alloc hw.size _
   clear hw
   generalize highTo g q=hh at *
   cases tr
   ·have HE:Hid (highTo g (q+1)=hh):=HT.out
    clear HT
    go_wp2_with fail
    go_roundg (g.length-(q+1))
    case measure=>omega
    case rel=>exact⟨q+1,by omega,by go_num,by rw[HE.out],HA.out⟩
   ·have HE:Hid (highTo g (q+1)=max hh keep):=HT.out
    clear HT
    go_wp2_with fail
    all_goals
     go_roundg (g.length-(q+1))
     case measure=>omega
     case rel=>exact⟨q+1,by omega,by go_num,by rw[HE.out];first | rfl | (congr 1;omega),HA.out⟩
  ·have HK:Hid (q=g.length):=by show _=_;omega
   go_wp2_with fail
   go_ret
   exact⟨by rw[HK.out];rfl,hw⟩
end Go.Proofs.YthmjjhfjkgaocaaGreatDoor

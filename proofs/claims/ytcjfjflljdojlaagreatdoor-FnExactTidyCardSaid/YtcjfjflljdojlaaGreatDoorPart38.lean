import Derived.Test.YtcjfjflljdojlaaGreatDoorPart37
import Derived.Deep.RegionLaw
import Derived.Lib.SliceRun
set_option linter.unusedSimpArgs false
set_option linter.unusedVariables false
set_option maxHeartbeats 4000000
set_option maxRecDepth 100000
namespace Go.Proofs.YtcjfjflljdojlaaGreatDoor
open Go.RowKit
theorem lI (bt B:Nat)(t:TD)(tv sv kv pv:Value)(x:Int)(reg:Nat)(kind:Int)(wr:World)(hx:x=(reg:Int))(h:iy bt B t tv sv kv pv wr)(pn:reg<t.types.length)(aP:t.types.length<=250)(wn:t.seen.length<=1000) :
  c_ 146 #[.pointer (some (a_ bt 0)),i_ x,i_ kind] wr (yo bt B (dL reg kind t) tv sv kv pv wr):=by
 aj hx
 exact Nh bt B t tv sv kv pv reg kind wr h pn aP wn
theorem IR (bt B:Nat)(t:TD)(tv sv kv pv:Value)(x:Int)(reg:Nat)(kind:Int)(wr:World)(hx:x=(reg:Int))(h:iy bt B t tv sv kv pv wr)(rE:t.puts.length<=1000) :
  c_ 157 #[.pointer (some (a_ bt 0)),i_ x,i_ kind] wr (E7 bt B (pU reg kind t) tv sv kv pv wr):=by
 aj hx
 exact My bt B t tv sv kv pv reg kind wr h rE
theorem EZ (bt B:Nat)(t:TD)(tv sv kv pv:Value)(x:Int)(kind:Int)(wr:World)(h:iy bt B t tv sv kv pv wr)(h1:-(t.types.length:Int)<=x)(h2:x<t.types.length)(aP:t.types.length<=250)(wn:t.seen.length<=1000)(KY:t.taken.length<=1000) :
  c_ 156 #[.pointer (some (a_ bt 0)),i_ x,i_ kind] wr (xy bt B (gL x kind t) tv sv kv pv wr):=by
 by_cases hx:x<0
 ·exact Dv bt B t tv sv kv pv x (-1-x).toNat kind wr h hx (by omega) (by omega) aP wn KY
 ·obtain⟨R,rfl⟩:=Int.eq_ofNat_of_zero_le (show 0<=x by omega);exact Dt bt B t tv sv kv pv R kind wr h (by omega) aP
def ji (bt B:Nat)(t:TD)(tv sv kv pv:Value)(wr:World)(e:Ending)(w':World):Prop:=e=.returned (.tuple #[])/\∃ Og Q7 iP,iy bt B t tv Og Q7 iP w'/\Below B wr w'/\gZ bt [tv,sv,kv,pv] [tv,Og,Q7,iP] wr w'
def gI (r:Nat)(x:Int)(nt:Nat):Prop:=
 (r=12\/r=13->-(nt:Int)<=x/\x<nt)/\(r=14\/r=15\/r=16->0<=x/\x<nt)/\(r=17\/r=19->0<=x/\x+1<nt)/\(r=18->0<=x/\x+2<nt)/\(20<=r->0<=x)
def pD (t:TD):Prop:=t.types.length<=250/\t.seen.length<=900/\t.taken.length<=900/\t.puts.length<=900
theorem ij {bt B:Nat}{t:TD}{tv sv kv pv:Value}{wr:World}(h:iy bt B t tv sv kv pv wr):wr.heap.size≠bt/\∀ v,v∈[tv,sv,kv,pv]->v.ownBlock≠some wr.heap.size:=by
 refine⟨by have:=h.row.lt;omega,fun v hv e=>?_⟩;simp only[List.mem_cons,List.mem_nil_iff,or_false]at hv;rcases hv with rfl | rfl | rfl | rfl
 ·have:=(h.ty.lt' _ e).2;omega
 ·have:=(h.se.lt' _ e).2;omega
 ·have:=(h.ta.lt' _ e).2;omega
 ·have:=(h.pu.lt' _ e).2;omega
theorem JR (bt B:Nat)(t:TD)(tv sv kv pv:Value)(x:Int)(wr:World)(h:iy bt B t tv sv kv pv wr)(aP:pD t)(hf:gI 12 x t.types.length) :
  c_ 145 #[.pointer (some (a_ bt 0)),.agg #[i_ 12,i_ x]] wr (ji bt B (du 12 x t) tv sv kv pv wr):=by
 obtain⟨l1,l2,l3,l4⟩:=aP;obtain⟨f1,f2,f3,f4,f5⟩:=hf;have HL:=af (And.intro (And.intro l1 l2) (And.intro l3 l4));obtain⟨tq,vg⟩:=ij h;have gR:=af tq;have xp:=af vg;have hA:b_ wr (wr.alloc (.cells #[i_ 12,i_ x] 184)):=r_.alloc n_ _;have H0:=af (h.below hA);have B0:Hid (Below B wr (wr.alloc (.cells #[i_ 12,i_ x] 184))):=hA.mono (by have:=h.ge;have:=h.row.lt;omega);have F0:Hid (gZ bt [tv,sv,kv,pv] [tv,sv,kv,pv] wr (wr.alloc (.cells #[i_ 12,i_ x] 184))):=gZ.of_below hA;have Fr:=af (gZ.refl bt [tv,sv,kv,pv] (wr.alloc (.cells #[i_ 12,i_ x] 184)));have X0:Hid ((wr.alloc (.cells #[i_ 12,i_ x] 184)).cell? (a_ wr.heap.size 1)=some (i_ x)):=by show _=_;simp[go_sem]
 have S0:Hid (wr.heap.size<(wr.alloc (.cells #[i_ 12,i_ x] 184)).heap.size):=by show _<_;simp
 clear h hA tq vg;obtain⟨g1,g2⟩:=f1 (by simp);clear f1 f2 f3 f4 f5;go_enter Tryz.func145,Tryz.ntmps145;go_wp2_with fail
 refine(EZ bt B t tv sv kv pv x 1 _ (aa H0) (by omega) (by omega) (by have:=HL.out.1.1;omega) (by have:=HL.out.1.2;omega) (by have:=HL.out.2.1;omega)).mono ?_;rintro e w1 ⟨rfl,kv1,h1,b1,f1⟩;have H1:=af h1;have B1:=af (B0.out.trans b1);have F1:=af (F0.out.trans f1);have BF:=af (Fr.out.trans f1);have xi:=BF.out.same wr.heap.size S0.out gR.out xp.out;have y1:=(World.cell?_of_block (a:=(a_ wr.heap.size 1)) xi).trans X0.out;have OH:wr.heap.size<w1.heap.size:=World.block_lt_of_cell? _ _ y1;clear h1 b1 f1 xi;go_wp2_with fail
 go_end0
 exact⟨rfl,sv,kv1,pv,(aa H1),B1.out,F1.out⟩
theorem IX (bt B:Nat)(t:TD)(tv sv kv pv:Value)(x:Int)(wr:World)(h:iy bt B t tv sv kv pv wr)(aP:pD t)(hf:gI 13 x t.types.length) :
  c_ 145 #[.pointer (some (a_ bt 0)),.agg #[i_ 13,i_ x]] wr (ji bt B (du 13 x t) tv sv kv pv wr):=by
 obtain⟨l1,l2,l3,l4⟩:=aP;obtain⟨f1,f2,f3,f4,f5⟩:=hf;have HL:=af (And.intro (And.intro l1 l2) (And.intro l3 l4));obtain⟨tq,vg⟩:=ij h;have gR:=af tq;have xp:=af vg;have hA:b_ wr (wr.alloc (.cells #[i_ 13,i_ x] 184)):=r_.alloc n_ _;have H0:=af (h.below hA);have B0:Hid (Below B wr (wr.alloc (.cells #[i_ 13,i_ x] 184))):=hA.mono (by have:=h.ge;have:=h.row.lt;omega);have F0:Hid (gZ bt [tv,sv,kv,pv] [tv,sv,kv,pv] wr (wr.alloc (.cells #[i_ 13,i_ x] 184))):=gZ.of_below hA;have Fr:=af (gZ.refl bt [tv,sv,kv,pv] (wr.alloc (.cells #[i_ 13,i_ x] 184)));have X0:Hid ((wr.alloc (.cells #[i_ 13,i_ x] 184)).cell? (a_ wr.heap.size 1)=some (i_ x)):=by show _=_;simp[go_sem]
 have S0:Hid (wr.heap.size<(wr.alloc (.cells #[i_ 13,i_ x] 184)).heap.size):=by show _<_;simp
 clear h hA tq vg;obtain⟨g1,g2⟩:=f1 (by simp);clear f1 f2 f3 f4 f5;go_enter Tryz.func145,Tryz.ntmps145;go_wp2_with fail
 refine(EZ bt B t tv sv kv pv x 3 _ (aa H0) (by omega) (by omega) (by have:=HL.out.1.1;omega) (by have:=HL.out.1.2;omega) (by have:=HL.out.2.1;omega)).mono ?_;rintro e w1 ⟨rfl,kv1,h1,b1,f1⟩;have H1:=af h1;have B1:=af (B0.out.trans b1);have F1:=af (F0.out.trans f1);have BF:=af (Fr.out.trans f1);have xi:=BF.out.same wr.heap.size S0.out gR.out xp.out;have y1:=(World.cell?_of_block (a:=(a_ wr.heap.size 1)) xi).trans X0.out;have OH:wr.heap.size<w1.heap.size:=World.block_lt_of_cell? _ _ y1;clear h1 b1 f1 xi;go_wp2_with fail
 go_end0
 exact⟨rfl,sv,kv1,pv,(aa H1),B1.out,F1.out⟩
theorem Jg (bt B:Nat)(t:TD)(tv sv kv pv:Value)(x:Int)(wr:World)(h:iy bt B t tv sv kv pv wr)(aP:pD t)(hf:gI 17 x t.types.length) :
  c_ 145 #[.pointer (some (a_ bt 0)),.agg #[i_ 17,i_ x]] wr (ji bt B (du 17 x t) tv sv kv pv wr):=by
 obtain⟨l1,l2,l3,l4⟩:=aP;obtain⟨f1,f2,f3,f4,f5⟩:=hf;have HL:=af (And.intro (And.intro l1 l2) (And.intro l3 l4));obtain⟨tq,vg⟩:=ij h;have gR:=af tq;have xp:=af vg;have hA:b_ wr (wr.alloc (.cells #[i_ 17,i_ x] 184)):=r_.alloc n_ _;have H0:=af (h.below hA);have B0:Hid (Below B wr (wr.alloc (.cells #[i_ 17,i_ x] 184))):=hA.mono (by have:=h.ge;have:=h.row.lt;omega);have F0:Hid (gZ bt [tv,sv,kv,pv] [tv,sv,kv,pv] wr (wr.alloc (.cells #[i_ 17,i_ x] 184))):=gZ.of_below hA;have Fr:=af (gZ.refl bt [tv,sv,kv,pv] (wr.alloc (.cells #[i_ 17,i_ x] 184)));have X0:Hid ((wr.alloc (.cells #[i_ 17,i_ x] 184)).cell? (a_ wr.heap.size 1)=some (i_ x)):=by show _=_;simp[go_sem]
 have S0:Hid (wr.heap.size<(wr.alloc (.cells #[i_ 17,i_ x] 184)).heap.size):=by show _<_;simp
 clear h hA tq vg;obtain⟨g1,g2⟩:=f3 (by simp);obtain⟨R,rfl⟩:=Int.eq_ofNat_of_zero_le g1;have HE:Hid (((R:Nat):Int).toNat=R):=rfl;clear f1 f2 f3 f4 f5;go_enter Tryz.func145,Tryz.ntmps145;go_wp2_with fail
 refine(lI bt B t tv sv kv pv _ (R) 1 _ (by push_cast;rfl) (aa H0) (by show R<t.types.length;omega) (by show t.types.length<=250;have:=HL.out.1.1;omega) (by show t.seen.length<=1000;have:=HL.out.1.2;omega)).mono ?_;rintro e w1 ⟨rfl,Is,h1,b1,f1⟩;have H1:=af h1;have B1:=af (B0.out.trans b1);have F1:=af (F0.out.trans f1);have BF:=af (Fr.out.trans f1);have xi:=BF.out.same wr.heap.size S0.out gR.out xp.out;have y1:=(World.cell?_of_block (a:=(a_ wr.heap.size 1)) xi).trans X0.out;have OH:wr.heap.size<w1.heap.size:=World.block_lt_of_cell? _ _ y1;clear h1 b1 f1 xi;go_wp2_with fail
 refine(lI bt B (dL (R) 1 (t)) tv Is kv pv _ (R+1) 1 _ (by push_cast;rfl) (aa H1) (by show R+1<t.types.length;omega) (by show t.types.length<=250;have:=HL.out.1.1;omega) (by show(t.seen++[_]).length<=1000;simp;have:=HL.out.1.2;omega)).mono ?_;rintro e w2 ⟨rfl,Ft,h2,b2,f2⟩;have H2:=af h2;have B2:=af (B1.out.trans b2);have F2:=af (F1.out.trans f2);have PI:=af (BF.out.trans f2);have PD:=PI.out.same wr.heap.size S0.out gR.out xp.out;have y2:=(World.cell?_of_block (a:=(a_ wr.heap.size 1)) PD).trans X0.out;have V5:wr.heap.size<w2.heap.size:=World.block_lt_of_cell? _ _ y2;clear h2 b2 f2 PD y1 OH;go_wp2_with fail
 go_end0
 exact⟨rfl,Ft,kv,pv,(aa H2),B2.out,F2.out⟩
theorem Kd (bt B:Nat)(t:TD)(tv sv kv pv:Value)(x:Int)(wr:World)(h:iy bt B t tv sv kv pv wr)(aP:pD t)(hf:gI 18 x t.types.length) :
  c_ 145 #[.pointer (some (a_ bt 0)),.agg #[i_ 18,i_ x]] wr (ji bt B (du 18 x t) tv sv kv pv wr):=by
 obtain⟨l1,l2,l3,l4⟩:=aP;obtain⟨f1,f2,f3,f4,f5⟩:=hf;have HL:=af (And.intro (And.intro l1 l2) (And.intro l3 l4));obtain⟨tq,vg⟩:=ij h;have gR:=af tq;have xp:=af vg;have hA:b_ wr (wr.alloc (.cells #[i_ 18,i_ x] 184)):=r_.alloc n_ _;have H0:=af (h.below hA);have B0:Hid (Below B wr (wr.alloc (.cells #[i_ 18,i_ x] 184))):=hA.mono (by have:=h.ge;have:=h.row.lt;omega);have F0:Hid (gZ bt [tv,sv,kv,pv] [tv,sv,kv,pv] wr (wr.alloc (.cells #[i_ 18,i_ x] 184))):=gZ.of_below hA;have Fr:=af (gZ.refl bt [tv,sv,kv,pv] (wr.alloc (.cells #[i_ 18,i_ x] 184)));have X0:Hid ((wr.alloc (.cells #[i_ 18,i_ x] 184)).cell? (a_ wr.heap.size 1)=some (i_ x)):=by show _=_;simp[go_sem]
 have S0:Hid (wr.heap.size<(wr.alloc (.cells #[i_ 18,i_ x] 184)).heap.size):=by show _<_;simp
 clear h hA tq vg;obtain⟨g1,g2⟩:=f4 rfl;obtain⟨R,rfl⟩:=Int.eq_ofNat_of_zero_le g1;have HE:Hid (((R:Nat):Int).toNat=R):=rfl;clear f1 f2 f3 f4 f5;go_enter Tryz.func145,Tryz.ntmps145;go_wp2_with fail
 refine(lI bt B t tv sv kv pv _ (R) 1 _ (by push_cast;rfl) (aa H0) (by show R<t.types.length;omega) (by show t.types.length<=250;have:=HL.out.1.1;omega) (by show t.seen.length<=1000;have:=HL.out.1.2;omega)).mono ?_;rintro e w1 ⟨rfl,Is,h1,b1,f1⟩;have H1:=af h1;have B1:=af (B0.out.trans b1);have F1:=af (F0.out.trans f1);have BF:=af (Fr.out.trans f1);have xi:=BF.out.same wr.heap.size S0.out gR.out xp.out;have y1:=(World.cell?_of_block (a:=(a_ wr.heap.size 1)) xi).trans X0.out;have OH:wr.heap.size<w1.heap.size:=World.block_lt_of_cell? _ _ y1;clear h1 b1 f1 xi;go_wp2_with fail
 refine(lI bt B (dL (R) 1 (t)) tv Is kv pv _ (R+1) 1 _ (by push_cast;rfl) (aa H1) (by show R+1<t.types.length;omega) (by show t.types.length<=250;have:=HL.out.1.1;omega) (by show(t.seen++[_]).length<=1000;simp;have:=HL.out.1.2;omega)).mono ?_;rintro e w2 ⟨rfl,Ft,h2,b2,f2⟩;have H2:=af h2;have B2:=af (B1.out.trans b2);have F2:=af (F1.out.trans f2);have PI:=af (BF.out.trans f2);have PD:=PI.out.same wr.heap.size S0.out gR.out xp.out;have y2:=(World.cell?_of_block (a:=(a_ wr.heap.size 1)) PD).trans X0.out;have V5:wr.heap.size<w2.heap.size:=World.block_lt_of_cell? _ _ y2;clear h2 b2 f2 PD y1 OH;go_wp2_with fail
 refine(lI bt B (dL (R+1) 1 (dL (R) 1 (t))) tv Ft kv pv _ (R+2) 1 _ (by push_cast;rfl) (aa H2) (by show R+2<t.types.length;omega) (by show t.types.length<=250;have:=HL.out.1.1;omega) (by show(t.seen++[_]++[_]).length<=1000;simp;have:=HL.out.1.2;omega)).mono ?_;rintro e w3 ⟨rfl,sv3,h3,b3,f3⟩;have H3:=af h3;have B3:=af (B2.out.trans b3);have F3:=af (F2.out.trans f3);have FF3:=af (PI.out.trans f3);have WL:=FF3.out.same wr.heap.size S0.out gR.out xp.out;have y3:=(World.cell?_of_block (a:=(a_ wr.heap.size 1)) WL).trans X0.out;have Xq:wr.heap.size<w3.heap.size:=World.block_lt_of_cell? _ _ y3;clear h3 b3 f3 WL y2 V5;go_wp2_with fail
 go_end0
 exact⟨rfl,sv3,kv,pv,(aa H3),B3.out,F3.out⟩
theorem qV (r:Nat)(hr:r=14\/r=15\/r=16)(bt B:Nat)(t:TD)(tv sv kv pv:Value)(x:Int)(wr:World)(h:iy bt B t tv sv kv pv wr)(aP:pD t)(hf:gI r x t.types.length) :
  c_ 145 #[.pointer (some (a_ bt 0)),.agg #[i_ (r:Int),i_ x]] wr (ji bt B (du r x t) tv sv kv pv wr):=by
 obtain⟨l1,l2,l3,l4⟩:=aP;obtain⟨f1,f2,f3,f4,f5⟩:=hf;have HL:=af (And.intro (And.intro l1 l2) (And.intro l3 l4));obtain⟨tq,vg⟩:=ij h;have gR:=af tq;have xp:=af vg;have hA:b_ wr (wr.alloc (.cells #[i_ (r:Int),i_ x] 184)):=r_.alloc n_ _;have H0:=af (h.below hA);have B0:Hid (Below B wr (wr.alloc (.cells #[i_ (r:Int),i_ x] 184))):=hA.mono (by have:=h.ge;have:=h.row.lt;omega);have F0:Hid (gZ bt [tv,sv,kv,pv] [tv,sv,kv,pv] wr (wr.alloc (.cells #[i_ (r:Int),i_ x] 184))):=gZ.of_below hA;have Fr:=af (gZ.refl bt [tv,sv,kv,pv] (wr.alloc (.cells #[i_ (r:Int),i_ x] 184)));have X0:Hid ((wr.alloc (.cells #[i_ (r:Int),i_ x] 184)).cell? (a_ wr.heap.size 1)=some (i_ x)):=by show _=_;simp[go_sem]
 have S0:Hid (wr.heap.size<(wr.alloc (.cells #[i_ (r:Int),i_ x] 184)).heap.size):=by show _<_;simp
 clear h hA tq vg;obtain⟨g1,g2⟩:=f2 (by omega);obtain⟨R,rfl⟩:=Int.eq_ofNat_of_zero_le g1;have HE:Hid (((R:Nat):Int).toNat=R):=rfl;clear f1 f2 f3 f4 f5;rcases hr with rfl | rfl | rfl
 all_goals
  go_enter Tryz.func145,Tryz.ntmps145;go_wp2_with fail
  refine(lI bt B t tv sv kv pv _ (R) _ _ (by push_cast;rfl) (aa H0) (by show R<t.types.length;omega) (by show t.types.length<=250;have:=HL.out.1.1;omega) (by show t.seen.length<=1000;have:=HL.out.1.2;omega)).mono ?_;rintro e w1 ⟨rfl,Is,h1,b1,f1⟩;have H1:=af h1;have B1:=af (B0.out.trans b1);have F1:=af (F0.out.trans f1);have BF:=af (Fr.out.trans f1);have xi:=BF.out.same wr.heap.size S0.out gR.out xp.out;have y1:=(World.cell?_of_block (a:=(a_ wr.heap.size 1)) xi).trans X0.out;have OH:wr.heap.size<w1.heap.size:=World.block_lt_of_cell? _ _ y1;clear h1 b1 f1 xi;go_wp2_with fail
  go_end0
  exact⟨rfl,Is,kv,pv,(aa H1),B1.out,F1.out⟩
theorem ol (r:Nat)(hr:r=20\/r=21\/r=22\/r=23)(bt B:Nat)(t:TD)(tv sv kv pv:Value)(x:Int)(wr:World)(h:iy bt B t tv sv kv pv wr)(aP:pD t)(hf:gI r x t.types.length) :
  c_ 145 #[.pointer (some (a_ bt 0)),.agg #[i_ (r:Int),i_ x]] wr (ji bt B (du r x t) tv sv kv pv wr):=by
 obtain⟨l1,l2,l3,l4⟩:=aP;obtain⟨f1,f2,f3,f4,f5⟩:=hf;have HL:=af (And.intro (And.intro l1 l2) (And.intro l3 l4));obtain⟨tq,vg⟩:=ij h;have gR:=af tq;have xp:=af vg;have hA:b_ wr (wr.alloc (.cells #[i_ (r:Int),i_ x] 184)):=r_.alloc n_ _;have H0:=af (h.below hA);have B0:Hid (Below B wr (wr.alloc (.cells #[i_ (r:Int),i_ x] 184))):=hA.mono (by have:=h.ge;have:=h.row.lt;omega);have F0:Hid (gZ bt [tv,sv,kv,pv] [tv,sv,kv,pv] wr (wr.alloc (.cells #[i_ (r:Int),i_ x] 184))):=gZ.of_below hA;have Fr:=af (gZ.refl bt [tv,sv,kv,pv] (wr.alloc (.cells #[i_ (r:Int),i_ x] 184)));have X0:Hid ((wr.alloc (.cells #[i_ (r:Int),i_ x] 184)).cell? (a_ wr.heap.size 1)=some (i_ x)):=by show _=_;simp[go_sem]
 have S0:Hid (wr.heap.size<(wr.alloc (.cells #[i_ (r:Int),i_ x] 184)).heap.size):=by show _<_;simp
 clear h hA tq vg;have g1:=f5 (by omega);obtain⟨R,rfl⟩:=Int.eq_ofNat_of_zero_le g1;have HE:Hid (((R:Nat):Int).toNat=R):=rfl;clear f1 f2 f3 f4 f5;rcases hr with rfl | rfl | rfl | rfl
 all_goals
  go_enter Tryz.func145,Tryz.ntmps145;go_wp2_with fail
  refine(IR bt B t tv sv kv pv _ (R) _ _ (by push_cast;rfl) (aa H0) (by show t.puts.length<=1000;have:=HL.out.2.2;omega)).mono ?_;rintro e w1 ⟨rfl,pv1,h1,b1,f1⟩;have H1:=af h1;have B1:=af (B0.out.trans b1);have F1:=af (F0.out.trans f1);have BF:=af (Fr.out.trans f1);have xi:=BF.out.same wr.heap.size S0.out gR.out xp.out;have y1:=(World.cell?_of_block (a:=(a_ wr.heap.size 1)) xi).trans X0.out;have OH:wr.heap.size<w1.heap.size:=World.block_lt_of_cell? _ _ y1;clear h1 b1 f1 xi;go_wp2_with fail
  go_end0
  exact⟨rfl,sv,kv,pv1,(aa H1),B1.out,F1.out⟩
theorem ef (r:Nat)(hr:r=0\/r=1\/r=2\/r=3\/r=4\/r=5\/r=6\/r=7\/r=8\/r=9\/r=10\/r=11)(bt B:Nat)(t:TD)(tv sv kv pv:Value)(x:Int)(wr:World)(h:iy bt B t tv sv kv pv wr)(aP:pD t)(hf:gI r x t.types.length) :
  c_ 145 #[.pointer (some (a_ bt 0)),.agg #[i_ (r:Int),i_ x]] wr (ji bt B (du r x t) tv sv kv pv wr):=by
 obtain⟨l1,l2,l3,l4⟩:=aP;obtain⟨f1,f2,f3,f4,f5⟩:=hf;have HL:=af (And.intro (And.intro l1 l2) (And.intro l3 l4));obtain⟨tq,vg⟩:=ij h;have gR:=af tq;have xp:=af vg;have hA:b_ wr (wr.alloc (.cells #[i_ (r:Int),i_ x] 184)):=r_.alloc n_ _;have H0:=af (h.below hA);have B0:Hid (Below B wr (wr.alloc (.cells #[i_ (r:Int),i_ x] 184))):=hA.mono (by have:=h.ge;have:=h.row.lt;omega);have F0:Hid (gZ bt [tv,sv,kv,pv] [tv,sv,kv,pv] wr (wr.alloc (.cells #[i_ (r:Int),i_ x] 184))):=gZ.of_below hA;have Fr:=af (gZ.refl bt [tv,sv,kv,pv] (wr.alloc (.cells #[i_ (r:Int),i_ x] 184)));have X0:Hid ((wr.alloc (.cells #[i_ (r:Int),i_ x] 184)).cell? (a_ wr.heap.size 1)=some (i_ x)):=by show _=_;simp[go_sem]
 have S0:Hid (wr.heap.size<(wr.alloc (.cells #[i_ (r:Int),i_ x] 184)).heap.size):=by show _<_;simp
 clear h hA tq vg;clear f1 f2 f3 f4 f5;rcases hr with rfl | rfl | rfl | rfl | rfl | rfl | rfl | rfl | rfl | rfl | rfl | rfl
 all_goals
  go_enter Tryz.func145,Tryz.ntmps145;go_wp2_with fail
  go_end0
  exact⟨rfl,sv,kv,pv,aa H0,B0.out,F0.out⟩
theorem J8 (bt B:Nat)(t:TD)(tv sv kv pv:Value)(x:Int)(wr:World)(h:iy bt B t tv sv kv pv wr)(aP:pD t)(hf:gI 19 x t.types.length) :
  c_ 145 #[.pointer (some (a_ bt 0)),.agg #[i_ 19,i_ x]] wr (ji bt B (du 19 x t) tv sv kv pv wr):=by
 obtain⟨l1,l2,l3,l4⟩:=aP;obtain⟨f1,f2,f3,f4,f5⟩:=hf;have HL:=af (And.intro (And.intro l1 l2) (And.intro l3 l4));obtain⟨tq,vg⟩:=ij h;have gR:=af tq;have xp:=af vg;have hA:b_ wr (wr.alloc (.cells #[i_ 19,i_ x] 184)):=r_.alloc n_ _;have H0:=af (h.below hA);have B0:Hid (Below B wr (wr.alloc (.cells #[i_ 19,i_ x] 184))):=hA.mono (by have:=h.ge;have:=h.row.lt;omega);have F0:Hid (gZ bt [tv,sv,kv,pv] [tv,sv,kv,pv] wr (wr.alloc (.cells #[i_ 19,i_ x] 184))):=gZ.of_below hA;have Fr:=af (gZ.refl bt [tv,sv,kv,pv] (wr.alloc (.cells #[i_ 19,i_ x] 184)));have X0:Hid ((wr.alloc (.cells #[i_ 19,i_ x] 184)).cell? (a_ wr.heap.size 1)=some (i_ x)):=by show _=_;simp[go_sem]
 have S0:Hid (wr.heap.size<(wr.alloc (.cells #[i_ 19,i_ x] 184)).heap.size):=by show _<_;simp
 clear h hA tq vg;obtain⟨g1,g2⟩:=f3 (by simp);obtain⟨R,rfl⟩:=Int.eq_ofNat_of_zero_le g1;have HE:Hid (((R:Nat):Int).toNat=R):=rfl;clear f1 f2 f3 f4 f5;go_enter Tryz.func145,Tryz.ntmps145;go_wp2_with fail
 refine(lI bt B t tv sv kv pv _ (R) 1 _ (by push_cast;rfl) (aa H0) (by show R<t.types.length;omega) (by show t.types.length<=250;have:=HL.out.1.1;omega) (by show t.seen.length<=1000;have:=HL.out.1.2;omega)).mono ?_;rintro e w1 ⟨rfl,Is,h1,b1,f1⟩;have H1:=af h1;have B1:=af (B0.out.trans b1);have F1:=af (F0.out.trans f1);have BF:=af (Fr.out.trans f1);have xi:=BF.out.same wr.heap.size S0.out gR.out xp.out;have y1:=(World.cell?_of_block (a:=(a_ wr.heap.size 1)) xi).trans X0.out;have OH:wr.heap.size<w1.heap.size:=World.block_lt_of_cell? _ _ y1;clear h1 b1 f1 xi;go_wp2_with fail
 refine(lI bt B (dL (R) 1 (t)) tv Is kv pv _ (R+1) 0 _ (by push_cast;rfl) (aa H1) (by show R+1<t.types.length;omega) (by show t.types.length<=250;have:=HL.out.1.1;omega) (by show(t.seen++[_]).length<=1000;simp;have:=HL.out.1.2;omega)).mono ?_;rintro e w2 ⟨rfl,Ft,h2,b2,f2⟩;have H2:=af h2;have B2:=af (B1.out.trans b2);have F2:=af (F1.out.trans f2);have PI:=af (BF.out.trans f2);have PD:=PI.out.same wr.heap.size S0.out gR.out xp.out;have y2:=(World.cell?_of_block (a:=(a_ wr.heap.size 1)) PD).trans X0.out;have V5:wr.heap.size<w2.heap.size:=World.block_lt_of_cell? _ _ y2;clear h2 b2 f2 PD y1 OH;obtain⟨i0,hi,dE,cT,dB⟩:=aN dT;obtain⟨c0,c1,c2,c3,c4⟩:=(aa H2).cells;have wg:=(aa H2).row.lt;have uY:Hid ((aH t.taken).length<=1048576):=by show _<=_;rw[ba];have:=HL.out.2.1;omega
 have Rc:=af (aa H2).ge;clear c0 c1 c3 c4;have hN:∀ j u,([i_ (R:Int)]:List Value)[j]? = some u->(w2.drew.alloc (.cells #[i_ (R:Int)] 3)).cell? (((a_ w2.heap.size 0):Addr).add j)=some u:=fun j u hj=>by
  match j,hj with
  | 0,hj=>simp at hj;aj hj;simp[Addr.add,go_sem]
 have Xz:=af hN;have PV:Hid ((w2.drew.alloc (.cells #[i_ (R:Int)] 3)).ownsRow B 3 1 kv (aH t.taken).length ((aH t.taken).map (Value.int .i64))):=(show ar w2.drew B kv (aH t.taken)from(aa H2).ta).alloc _;have L1:Hid ((aH t.taken).length+1<=maxLen):=by show _<=_;have:=uY.out;unfold maxLen;omega
 have L2:Hid (((aH t.taken).length+1) * 8<=140737488355328):=by show _<=_;have:=uY.out;omega
 have L3:Hid (B<=(w2.drew.alloc (.cells #[i_ (R:Int)] 3)).heap.size):=by show _<=_;have h1:=Rc.out;simp;omega
 have L4:Hid ((w2.drew.alloc (.cells #[i_ (R:Int)] 3)).heap.size=w2.heap.size+1):=by show _=_;simp
 have NX:Hid (∀ w3,(w2.drew.alloc (.cells #[i_ (R:Int)] 3)).grownBy w3 kv.ownBlock->w3.cell? (a_ wr.heap.size 1)=some (i_ (R:Int))/\w3.cell? (a_ bt 2)=some kv/\w3.frozen? (a_ bt 2)=false/\bt<w3.heap.size/\wr.heap.size<w3.heap.size):=fun w3 hg=>by
  have b1:w3.heap[bt]? = w2.heap[bt]?:=by
   rw[hg.block bt (by rw[L4.out];omega) (fun e=>(aa H2).bk e.symm)];exact Below.heap_alloc w2.drew _ bt wg
  have b2:w3.heap[wr.heap.size]? = w2.heap[wr.heap.size]?:=by
   rw[hg.block wr.heap.size (by rw[L4.out];omega) (fun e=>(PI.out.new wr.heap.size S0.out xp.out) kv (by simp) e.symm)];exact Below.heap_alloc w2.drew _ _ V5
  have s2:w3.cell? (a_ bt 2)=some kv:=(World.cell?_of_block (a:=(a_ bt 2)) b1).trans c2;have s1:w3.cell? (a_ wr.heap.size 1)=some (i_ (R:Int)):=(World.cell?_of_block (a:=(a_ wr.heap.size 1)) b2).trans y2;exact⟨s1,s2,((aa H2).row.of_block b1).frozen 2,World.block_lt_of_cell? _ _ s2,World.block_lt_of_cell? _ _ s1⟩
 have YG:¬(wr.heap.size=bt):=gR.out;have UU:¬(bt=wr.heap.size):=fun e=>gR.out e.symm;clear hN
 go_upto_region 22 with fail
 go_region_law ((refine step_append_lies _ (by rfl) (.tmp 78) (.tmp 81) 70 (by rfl) B 3 i0 (i_ 0) 1 8 Tryz.underlying70 hi dE cT dB rfl (by decide) kv _ _ rfl (aa PV) (a_ w2.heap.size 0) 1 1 [i_ (R:Int)] rfl rfl (aa Xz) (by intro u hu;simp at hu;aj hu;rfl) (by decide) L1.out L2.out L3.out (w2.heap.size+1) L4.out ?_;intro g3 cap3 w3 hown3 hgrow3 hat3 hlt3;obtain⟨n1,n2,n3,n4,n5⟩:=aa NX _ hgrow3))
 all_goals
  have O3:Hid (ar w3 B (.slice (some (a_ g3 0)) ((aH t.taken).length+1) cap3) (aH (t.taken++[R]))):=by show ar _ _ _ _;rw[f9];exact ar.push hown3
  have hD:gZ bt [tv,Ft,kv,pv] [tv,Ft,kv,pv] w2 w2.drew:=gZ.of_below (r_.drew);have HD2:=(aa H2).below (w2:=w2.drew) (r_.drew);obtain⟨eM,Sz,Pm⟩:=HD2.taken (x:=R) rfl hgrow3 (aa O3) (by simpa using hat3)
  replace Sz:=(show Below B w2 w2.drew from r_.drew).trans Sz
  replace Pm:=hD.trans Pm
  have H3:=af eM;have B3:=af (B2.out.trans Sz);have F3:=af (F2.out.trans Pm);have FF3:=af (PI.out.trans Pm);have WL:=FF3.out.same wr.heap.size S0.out gR.out xp.out;have y3:=(World.cell?_of_block (a:=(a_ wr.heap.size 1)) WL).trans X0.out;have Xq:wr.heap.size<(w3.setCell (a_ bt 2) (.slice (some (a_ g3 0)) ((aH t.taken).length+1) cap3)).heap.size:=World.block_lt_of_cell? _ _ y3;have HY3:=af y3;have HZ3:=af Xq;clear eM Sz Pm hown3 hgrow3 hat3 O3 c2 WL y3 Xq y2 V5 n1 n2 n3 n4 n5 NX PV Xz L1 L2 L3 L4 hD HD2;generalize w3.setCell (a_ bt 2) (.slice (some (a_ g3 0)) ((aH t.taken).length+1) cap3)=w4 at *;have y3:=HY3.out;have Xq:=HZ3.out;go_wp2_with fail
  refine(IR bt B (pP R (dL (R+1) 0 (dL R 1 t))) tv Ft _ pv _ (R+1) 1 _ (by push_cast;rfl) (aa H3) (by show t.puts.length<=1000;have:=HL.out.2.2;omega)).mono ?_;rintro e w5 ⟨rfl,pv5,h5,b5,f5⟩;have H5:=af h5;have B5:=af (B3.out.trans b5);have F5:=af (F3.out.trans f5);clear h5 b5 f5 y3 Xq;go_wp2_with fail
  go_end0
  exact⟨rfl,Ft,_,pv5,aa H5,B5.out,F5.out⟩
theorem Gl (r:Nat)(hr:r<=23)(bt B:Nat)(t:TD)(tv sv kv pv:Value)(x:Int)(wr:World)(h:iy bt B t tv sv kv pv wr)(aP:pD t)(hf:gI r x t.types.length) :
  c_ 145 #[.pointer (some (a_ bt 0)),.agg #[i_ (r:Int),i_ x]] wr (ji bt B (du r x t) tv sv kv pv wr):=by
 have hc:r=0\/r=1\/r=2\/r=3\/r=4\/r=5\/r=6\/r=7\/r=8\/r=9\/r=10\/r=11\/r=12\/r=13\/r=14\/r=15\/r=16\/r=17\/r=18\/r=19\/r=20\/r=21\/r=22\/r=23:=by omega
 rcases hc with rfl | rfl | rfl | rfl | rfl | rfl | rfl | rfl | rfl | rfl | rfl | rfl | rfl | rfl | rfl | rfl | rfl | rfl | rfl | rfl | rfl | rfl | rfl | rfl
 ·exact ef 0 (by omega) bt B t tv sv kv pv x wr h aP hf
 ·exact ef 1 (by omega) bt B t tv sv kv pv x wr h aP hf
 ·exact ef 2 (by omega) bt B t tv sv kv pv x wr h aP hf
 ·exact ef 3 (by omega) bt B t tv sv kv pv x wr h aP hf
 ·exact ef 4 (by omega) bt B t tv sv kv pv x wr h aP hf
 ·exact ef 5 (by omega) bt B t tv sv kv pv x wr h aP hf
 ·exact ef 6 (by omega) bt B t tv sv kv pv x wr h aP hf
 ·exact ef 7 (by omega) bt B t tv sv kv pv x wr h aP hf
 ·exact ef 8 (by omega) bt B t tv sv kv pv x wr h aP hf
 ·exact ef 9 (by omega) bt B t tv sv kv pv x wr h aP hf
 ·exact ef 10 (by omega) bt B t tv sv kv pv x wr h aP hf
 ·exact ef 11 (by omega) bt B t tv sv kv pv x wr h aP hf
 ·exact JR bt B t tv sv kv pv x wr h aP hf
 ·exact IX bt B t tv sv kv pv x wr h aP hf
 ·exact qV 14 (by omega) bt B t tv sv kv pv x wr h aP hf
 ·exact qV 15 (by omega) bt B t tv sv kv pv x wr h aP hf
 ·exact qV 16 (by omega) bt B t tv sv kv pv x wr h aP hf
 ·exact Jg bt B t tv sv kv pv x wr h aP hf
 ·exact Kd bt B t tv sv kv pv x wr h aP hf
 ·exact J8 bt B t tv sv kv pv x wr h aP hf
 ·exact ol 20 (by omega) bt B t tv sv kv pv x wr h aP hf
 ·exact ol 21 (by omega) bt B t tv sv kv pv x wr h aP hf
 ·exact ol 22 (by omega) bt B t tv sv kv pv x wr h aP hf
 ·exact ol 23 (by omega) bt B t tv sv kv pv x wr h aP hf
theorem IE (w:World)(a:o_)(n c:Nat):(binOp .eql 70 (.slice a n c) (.slice none 0 0)).run Tryz.prog w=.ok (.bool a.isNone) w:=Go.Lib.run_eql_slice_nil w 70 3 a n c 0 0 Tryz.underlying70
def kf (l:List Int)(w:World)(e:Ending)(w':World):Prop:=∃ v,e=.returned v/\ar w' w.heap.size v l/\b_ w w'
theorem G1 (a:o_)(l:List Int)(c:Nat)(S:Nat->Prop)(w:World)(hs:aR w S a l)(hB:∀ b,S b->b<w.heap.size)(hl:l.length<=1048576) :
  c_ 144 #[.slice a l.length c] w (kf l w):=by
 obtain⟨i0,hi,dE,cT,dB⟩:=aN dT;have hq:=IE;cases a with
 | none=>
  have h0:l.length=0:=by
   by_cases h:0<l.length
   ·obtain⟨b,off,e,_⟩:=hs.2 h;cases e
   ·omega
  obtain rfl:l=[]:=List.eq_nil_of_length_eq_zero h0;clear hs hB hl h0;go_enter Tryz.func144,Tryz.ntmps144;go_wp2_with fail
  go_ret;exact⟨_,rfl,World.ownsRow_nil _ _ _ _,r_⟩
 | some ad=>
  by_cases h0:0<l.length
  ·obtain⟨b,off,e,hb,aE⟩:=hs.2 h0;cases e;have cZ:=hB b hb;have PB:=af aE;clear aE hs;have PV:Hid ((w.alloc (.cells #[] 3)).ownsRow w.heap.size 3 1 (.slice (some (a_ w.heap.size 0)) 0 0) 0 []):=⟨rfl,.inr ⟨w.heap.size,0,#[],rfl,n_,Go.Deep.blk_alloc_new _ _,n_,by unfold maxLen;omega,rfl,rfl⟩⟩;have HN:Hid (∀ j u,(l.map (Value.int .i64))[j]? = some u->(w.alloc (.cells #[] 3)).cell? (((a_ b off):Addr).add j)=some u):=fun j u hj=>by
    rw[List.getElem?_map]at hj;by_cases qC:j<l.length
    ·rw[g_ qC]at hj;have h1:=aa PB j qC;rw[g_ qC]at h1;have e:((a_ b off):Addr).add j=(a_ b (off+j)):=by simp[Addr.add]
     rw[e,Below.cell (B:=w.heap.size) (r_.alloc n_ _) (p:=(a_ b (off+j))) cZ,h1];exact hj
    ·rw[List.getElem?_eq_none (by omega)]at hj;cases hj
   go_enter Tryz.func144,Tryz.ntmps144;go_wp2_with (first
    | (at_builtin;refine wpList_append_lies _ rfl _ _ 70 rfl w.heap.size 3 i0 (i_ 0) 1 8 Tryz.underlying70 hi dE cT dB rfl (by decide) (.slice (some (a_ w.heap.size 0)) 0 0) 0 [] rfl (aa PV) (a_ b off) l.length c (l.map (Value.int .i64)) rfl (by simp) (aa HN) ?c2 h0 ?c3 ?c4 ?c5 (w.heap.size+1) (by simp) ?_)
    | go_in)
   all_goals try (case c2=>intro u hu;rw[List.mem_map]at hu;obtain⟨x,_,rfl⟩:=hu;rfl)
   all_goals try (case c3=>unfold maxLen;omega)
   all_goals try (case c4=>omega)
   all_goals try (case c5=>simp)
   intro g3 cap3 w3 hown3 hgrow3 hat3 hlt3;have O3:Hid (ar w3 w.heap.size (.slice (some (a_ g3 0)) l.length cap3) l):=by
    show ar _ _ _ _;unfold ar
    first | exact hown3 | (rw[Nat.zero_add]at hown3;exact hown3)
   have B3:Hid (b_ w w3):=(r_.alloc n_ _).grown hgrow3 (by simp) (fun k hk=>by have:w.heap.size=k:=Option.some.inj hk;omega);clear hown3 hgrow3 hat3 PV HN;go_wp2_with fail
   go_ret;exact⟨_,rfl,O3.out,B3.out⟩
  ·obtain rfl:l=[]:=List.eq_nil_of_length_eq_zero (by omega);clear hs hB hl h0;go_enter Tryz.func144,Tryz.ntmps144;go_wp2_with fail
   go_ret;exact⟨_,rfl,⟨rfl,.inr ⟨w.heap.size,0,#[],rfl,n_,Go.Deep.blk_alloc_new _ _,n_,by unfold maxLen;omega,rfl,rfl⟩⟩,r_.alloc n_ _⟩
theorem zX (g:List bg)(k:Nat):fh g (k+1)=if(g[k]?.getD bg.z).tr then max (fh g k) (g[k]?.getD bg.z).keep else fh g k:=rfl
theorem mr (a:o_)(g:List bg)(c:Nat)(S:Nat->Prop)(w:World)(hs:bx w S a g)(hB:∀ b,S b->b<w.heap.size)(hl:g.length<=50) :
  c_ 147 #[.slice a g.length c] w fun e w'=>e=.returned (i_ (eW g))/\b_ w w':=by
 have HS:=af hs;have oH:=af hB;clear hs hB;go_enter Tryz.func147,Tryz.ntmps147;go_wp2_with fail
 go_loopg [3,8] g.length (fun gg h i wr=>∃ q:Nat,q+gg=g.length/\i=i_ q/\h=i_ (fh g q)/\b_ w wr)
 case atStart=>exact⟨0,by omega,rfl,rfl,r_⟩
 case round=>
  obtain⟨q,hq,rfl,rfl,hw⟩:=hrel;by_cases ax:q<g.length
  ·obtain⟨b,off,rfl,hb,aE⟩:=((aa HS).same (.of_below hw (aa oH))).2 (by omega);obtain⟨c0,c1,c2⟩:=aE q ax;have cZ:b<wr.heap.size:=l_ (aa oH b hb) hw.size;have HT:=af (zX g q);clear aE;generalize g[q]?.getD bg.z=u at *;obtain⟨tr,keep,hand⟩:=u;dsimp only at *;have HA:Hid (b_ w (wr.alloc (.cells #[.bool tr,i_ keep,i_ hand] 154))):=hw.alloc hw.size _;clear hw;generalize fh g q=hh at *;cases tr
   ·have HE:Hid (fh g (q+1)=hh):=HT.out;clear HT;go_wp2_with fail
    go_roundg (g.length-(q+1))
    case measure=>omega
    case rel=>exact⟨q+1,by omega,by go_num,by rw[HE.out],HA.out⟩
   ·have HE:Hid (fh g (q+1)=max hh keep):=HT.out;clear HT;go_wp2_with fail
    all_goals
     go_roundg (g.length-(q+1))
     case measure=>omega
     case rel=>exact⟨q+1,by omega,by go_num,by rw[HE.out];first | rfl | (congr 1;omega),HA.out⟩
  ·have HK:Hid (q=g.length):=by show _=_;omega
   go_wp2_with fail
   go_ret;exact⟨by rw[HK.out];rfl,hw⟩
end Go.Proofs.YtcjfjflljdojlaaGreatDoor

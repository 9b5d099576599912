import Derived.Test.YtomcjennjcpdnaaGreatDoorPart42
import Derived.Deep.RegionHeld3
set_option linter.unusedSimpArgs false
set_option linter.unusedVariables false
set_option maxHeartbeats 4000000
namespace Go.Proofs.YtomcjennjcpdnaaGreatDoor
set_option maxRecDepth 100000
set_option maxHeartbeats 4000000
open Go.RowKit
attribute [local go_sem] run_store_float
theorem st_6 {sb hb nv:Nat}{an:Option Addr}{cn:Nat}{S:Nat->Prop}{ns:List NodeD}(T:TreeOk ns)(i:Nat)(hi:i<ns.length)(hk:(nd ns i).kind=6)(hl:(nd ns i).kids.length=2)(I:∀ k,k<i->SStm sb hb nv an cn S ns k):SStm sb hb nv an cn S ns i:=by
 intro t h w hW hN hB h0 h1;obtain⟨b6,o6,rfl,hb6,hn6⟩:=hN.2 (by omega);have M:NodeCells w S b6 (o6+i * 8) (nd ns i):=hn6 i hi;have hl6:=hN.1;have c0:=hW.box.cell (i:=0) (by omega);simp at c0;have m0:=M.kind;have m1:=M.line;have m2:=M.op;have m3:=M.num;have m4:=M.flt;have m5:=M.str;obtain⟨a1,k1,m6,I6⟩:=M.refs;obtain⟨a2,k2,m7,I7⟩:=M.kids;have hsb:sb<w.heap.size:=hW.box.lt;have hb6l:b6<w.heap.size:=(hB b6 hb6).1;have hWt:=Wt_eq T hi;have bal:∀ o,Below w.heap.size w (w.alloc o):=fun o=>(Below.refl _ _).alloc (Nat.le_refl _) _;have BAL:=hide bal;have hF0:hF ns i t h=hF ns (kidI (nd ns i) 1).toNat t h:=by
  rw[hF_eq T hi ⟨fun e=>by omega,fun e=>by omega⟩];unfold stepF;simp only[hk]
 have hL0:letLen ns i=0:=by unfold letLen;rw[Int.toNat_natCast,if_neg (by omega)]
 rw[hF0,hL0,Int.add_zero];clear hF0 hL0;obtain⟨k0,k1',hlk,hq0,hq1,hWt2⟩:=kids_two T hi hl;have I1:=hide (I k1' hq1);obtain⟨b2,o2,rfl⟩:=I7.some_of (by omega);have kc:=I7.cellAt (j:=1) (by omega);have hb2:b2<w.heap.size:=World.block_lt_of_cell? _ _ kc;have ekid:kidI (nd ns i) 1=(k1':Int):=by unfold kidI;rw[hlk];rfl
 rw[ekid,Int.toNat_natCast];simp only[hlk,List.getElem?_cons_succ,List.getElem?_cons_zero,Option.getD_some]at kc;rw[hl]at m7;have HW2:=hide hWt2;clear I hWt2 ekid;have HW:=hide hW;have HN:=hide hN;have HB:=hide hB;have HI6:=hide I6;have HI7:=hide I7;have HWt:=hide hWt;have H1:=hide h1;have t1:t<=2000000:=by omega
 clear hW hN hB I6 I7 M hn6 hWt h1 bal;unfold own1 at HWt;generalize nd ns i=n at *;clear hlk;go_enter Tryz.func36,Tryz.ntmps36;go_wp2_with fail
 refine(I1.out t h _ (HW.out.below (BAL.out _)) (HN.out.keep (BAL.out _) (fun b hb=>(HB.out b hb).1)) (fun b hb=>⟨Nat.lt_of_lt_of_le (HB.out b hb).1 (BAL.out _).size,(HB.out b hb).2⟩) h0 (by have:=HW2.out;have:=H1.out;omega)).mono ?_;rintro e w2 ⟨rfl,S2,f2⟩;have R2:=hide (And.intro S2 ((Fr.of_below (BAL.out _)).trans f2));clear S2 f2;go_wp2_with fail
 go_ret;exact⟨rfl,R2.out.1,R2.out.2⟩
end Go.Proofs.YtomcjennjcpdnaaGreatDoor
namespace Go.Proofs.YtomcjennjcpdnaaGreatDoor
set_option maxRecDepth 100000
set_option maxHeartbeats 4000000
open Go.RowKit
attribute [local go_sem] run_store_float
theorem kid_le {ns:List NodeD}(T:TreeOk ns){i:Nat}(hi:i<ns.length){j:Nat}(hj:j<(nd ns i).kids.length):∃ k:Nat,(nd ns i).kids[j]?.getD 0=(k:Int)/\kidI (nd ns i) j=k/\k<i/\own1 (nd ns i)+Wt ns k<=Wt ns i:=by
 have hm:(nd ns i).kids[j]?.getD 0∈(nd ns i).kids:=by rw[List.getElem?_eq_getElem hj];exact List.getElem_mem _
 obtain⟨h0,h1⟩:=kids_lt T hi hm;obtain⟨k,hk⟩:=Int.eq_ofNat_of_zero_le h0;refine⟨k,hk,hk,by omega,?_⟩;have hW:=Wt_eq T hi;have hsm:=sumTo_succ (wk ns) (nd ns i).kids j 0 hj;have hle:=sumTo_le (wk ns) (nd ns i).kids (j+1);rw[hk]at hsm;simp only[wk,Int.toNat_natCast]at hsm hle;have e:sumAll (wk ns) (nd ns i).kids=sumAll (fun k:Int=>Wt ns k.toNat) (nd ns i).kids:=rfl;rw[hW,e];omega
theorem st_7 {sb hb nv:Nat}{an:Option Addr}{cn:Nat}{S:Nat->Prop}{ns:List NodeD}(T:TreeOk ns)(i:Nat)(hi:i<ns.length)(hk:(nd ns i).kind=7)(hl:(nd ns i).kids.length=4)(hrf:∀ j,j<(nd ns i).refs.length->0<=(nd ns i).refs[j]?.getD 0/\(nd ns i).refs[j]?.getD 0<nv)(I:∀ k,k<i->SStm sb hb nv an cn S ns k):SStm sb hb nv an cn S ns i:=by
 intro t h w hW hN hB h0 h1;obtain⟨b6,o6,rfl,hb6,hn6⟩:=hN.2 (by omega);have M:NodeCells w S b6 (o6+i * 8) (nd ns i):=hn6 i hi;have hl6:=hN.1;have c0:=hW.box.cell (i:=0) (by omega);simp at c0;have m0:=M.kind;have m1:=M.line;have m2:=M.op;have m3:=M.num;have m4:=M.flt;have m5:=M.str;obtain⟨a1,k1,m6,I6⟩:=M.refs;obtain⟨a2,k2,m7,I7⟩:=M.kids;have hsb:sb<w.heap.size:=hW.box.lt;have hb6l:b6<w.heap.size:=(hB b6 hb6).1;have hWt:=Wt_eq T hi;have bal:∀ o,Below w.heap.size w (w.alloc o):=fun o=>(Below.refl _ _).alloc (Nat.le_refl _) _;have BAL:=hide bal;have hF0:hF ns i t h=hF ns (kidI (nd ns i) 3).toNat (t+3+(nd ns i).refs.length) (settleF h (nd ns i).refs (t+3)):=by
  rw[hF_eq T hi ⟨fun e=>by omega,fun e=>by omega⟩];unfold stepF;simp only[hk]
 have hL0:letLen ns i=0:=by unfold letLen;rw[Int.toNat_natCast,if_neg (by omega)]
 rw[hF0,hL0,Int.add_zero];clear hF0 hL0;have HR:=hide hrf;obtain⟨kj,ej,ej',hqj,hWj⟩:=kid_le T hi (j:=3) (by omega);have Ij:=hide (I kj hqj);obtain⟨b2,o2,rfl,hS2,hc2⟩:=I7.2 (by omega);have kc:=hc2 3 (by omega);have hb2:b2<w.heap.size:=World.block_lt_of_cell? _ _ kc;rw[ej]at kc;rw[ej',Int.toNat_natCast];rw[hl]at m7;have HWj:=hide hWj;have hhb:hb<w.heap.size:=hW.row.lt;have hb2n:b2≠hb:=(hB b2 hS2).2;clear I hWj ej ej' hc2 hrf;have HW:=hide hW;have HN:=hide hN;have HB:=hide hB;have HI6:=hide I6;have HI7:=hide I7;have HWt:=hide hWt;have H1:=hide h1;have t1:t<=2000000:=by omega
 clear hW hN hB I6 I7 M hn6 hWt h1 bal;unfold own1 at HWt;generalize nd ns i=n at *;unfold own1 at HWj;have hrl:n.refs.length<=2000000:=by have:=HWj.out;have:=H1.out;omega
 have hwr:IntKind.i64.wrap (t+3)=t+3:=by rw[IntKind.wrap_i64];omega
 obtain⟨W1,hW1⟩:∃ W1:World,W1=w.alloc (.cells #[.int .i64 7,.int .i64 n.line,.int .i64 n.op,.int .i64 n.num,.float .f64 n.flt,.string n.str,.slice a1 n.refs.length k1,.slice (some ⟨b2,o2,none⟩) 4 k2] 97):=⟨_,rfl⟩;have HW1:=hide hW1;have B1:Hid (Below w.heap.size w W1):=by show Below _ _ _;rw[hW1];exact BAL.out _
 have nbs:w.heap.size<W1.heap.size:=by rw[hW1];simp
 have q0:W1.cell? ⟨w.heap.size,0,none⟩=some (.int .i64 7):=by rw[hW1];simp[go_sem]
 have q6:W1.cell? ⟨w.heap.size,6,none⟩=some (.slice a1 n.refs.length k1):=by rw[hW1];simp[go_sem]
 have q7:W1.cell? ⟨w.heap.size,7,none⟩=some (.slice (some ⟨b2,o2,none⟩) 4 k2):=by rw[hW1];simp[go_sem]
 have qk:W1.cell? ⟨b2,o2+3,none⟩=some (.int .i64 (kj:Int)):=(B1.out.cell (p:=⟨b2,o2+3,none⟩) hb2).trans kc;have CL:Hid (∀ w2,Fr (fun b=>b=hb) (fun b=>b=hb) W1 w2->w2.cell? ⟨w.heap.size,6,none⟩=some (.slice a1 n.refs.length k1)/\w2.cell? ⟨w.heap.size,7,none⟩=some (.slice (some ⟨b2,o2,none⟩) 4 k2)/\w2.cell? ⟨b2,o2+3,none⟩=some (.int .i64 (kj:Int))):=fun w2 f=>by
  have e1:=f.block w.heap.size nbs (by omega);have e2:=f.block b2 (by omega) hb2n;exact⟨(World.cell?_of_block (a:=⟨w.heap.size,6,none⟩) e1).trans q6,(World.cell?_of_block (a:=⟨w.heap.size,7,none⟩) e1).trans q7,(World.cell?_of_block (a:=⟨b2,o2+3,none⟩) e2).trans qk⟩
 have FRc:Hid (Fr (fun b=>b=hb) (fun b=>b=hb) W1 W1):=Fr.refl;have SWc:Hid (SW sb hb nv (some ⟨b6,o6,none⟩) ns.length cn W1 h):=HW.out.below B1.out;clear hW1;go_enter Tryz.func36,Tryz.ntmps36
 go_upto_region 2 with fail
 rw[<-HW1.out];clear c0 m0 m1 m2 m3 m4 m5 m6 m7;have FD:Hid (Fr (fun b=>b=hb) (fun b=>b=hb) W1 W1.drew):=FRc.out.trans (Fr.of_below (Below.refl _ _).drew);have FW:Hid (Fr (fun b=>b=hb) (fun b=>b=hb) w W1.drew):=(Fr.of_below B1.out).trans FD.out;have FX:Hid (∀ w2,Fr (fun b=>b=hb) (fun b=>b=hb) w w2->NodesAt w2 S (some ⟨b6,o6,none⟩) ns/\IntsAt w2 S a1 n.refs/\∀ b,S b->b<w2.heap.size/\b≠hb):=fun w2 f=>⟨HN.out.fr f HB.out,HI6.out.fr f HB.out,fun b hb=>⟨Nat.lt_of_lt_of_le (HB.out b hb).1 f.size,(HB.out b hb).2⟩⟩;have SWd:Hid (SW sb hb nv (some ⟨b6,o6,none⟩) ns.length cn W1.drew h):=SWc.out.below (Below.refl _ _).drew;have P1:Hid (Calls Tryz.prog 69 #[.pointer (some ⟨sb,0,none⟩),.slice a1 n.refs.length k1,.int .i64 (t+3)] W1.drew (SetPost sb hb nv (some ⟨b6,o6,none⟩) ns.length cn W1.drew (.int .i64 (t+3+n.refs.length)) (settleF h n.refs (t+3)))):=
  settle_any sb hb nv _ ns.length cn h a1 n.refs k1 (t+3) S _ SWd.out (FX.out _ FW.out).2.1 (FX.out _ FW.out).2.2 HR.out (by omega) (by omega) (by have:=HWj.out;have:=H1.out;omega)
 have P2:Hid (∀ w2,SW sb hb nv (some ⟨b6,o6,none⟩) ns.length cn w2 (settleF h n.refs (t+3))->Fr (fun b=>b=hb) (fun b=>b=hb) W1.drew w2->Calls Tryz.prog 36 #[.pointer (some ⟨sb,0,none⟩),.int .i64 (kj:Int),.int .i64 (t+3+n.refs.length)] w2 (SetPost sb hb nv (some ⟨b6,o6,none⟩) ns.length cn w2 (.int .i64 (t+3+n.refs.length+letLen ns kj)) (hF ns kj (t+3+n.refs.length) (settleF h n.refs (t+3))))):=fun w2 s2 f2=>
  Ij.out _ _ w2 s2 (FX.out _ (FW.out.trans f2)).1 (FX.out _ (FW.out.trans f2)).2.2 (by omega) (by have:=HWj.out;have:=H1.out;omega)
 go_wp2_with fail
 go_region_held3 (fun w'=>w'.cell? ⟨w.heap.size,6,none⟩=some (.slice a1 n.refs.length k1)/\w'.cell? ⟨w.heap.size,7,none⟩=some (.slice (some ⟨b2,o2,none⟩) 4 k2)/\w'.cell? ⟨b2,o2+3,none⟩=some (.int .i64 (kj:Int))) (simp[go_sem, *])
  (first
   | (go_at_call 69;refine(unhide P1).mono ?_;rintro e w2 ⟨rfl,S2,f2⟩;obtain⟨v6,v7,vk⟩:=unhide CL w2 (FD.out.trans f2))
   | (go_at_call 36;refine(unhide P2 _ S2 f2).mono ?_;rintro e w3 ⟨rfl,S3,f3⟩;obtain⟨x6,x7,xk⟩:=unhide CL w3 (FD.out.trans (f2.trans f3))))
 have R3:=hide (And.intro S3 (FW.out.trans (f2.trans f3)));clear S3 f3 S2 f2 v6 v7 vk x6 x7 xk P1 P2 CL;go_wp2_with fail
 go_ret;exact⟨rfl,R3.out.1,R3.out.2⟩
theorem st_8 {sb hb nv:Nat}{an:Option Addr}{cn:Nat}{S:Nat->Prop}{ns:List NodeD}(T:TreeOk ns)(i:Nat)(hi:i<ns.length)(hk:(nd ns i).kind=8)(hl:(nd ns i).kids.length=2)(hrf:∀ j,j<(nd ns i).refs.length->0<=(nd ns i).refs[j]?.getD 0/\(nd ns i).refs[j]?.getD 0<nv)(I:∀ k,k<i->SStm sb hb nv an cn S ns k):SStm sb hb nv an cn S ns i:=by
 intro t h w hW hN hB h0 h1;obtain⟨b6,o6,rfl,hb6,hn6⟩:=hN.2 (by omega);have M:NodeCells w S b6 (o6+i * 8) (nd ns i):=hn6 i hi;have hl6:=hN.1;have c0:=hW.box.cell (i:=0) (by omega);simp at c0;have m0:=M.kind;have m1:=M.line;have m2:=M.op;have m3:=M.num;have m4:=M.flt;have m5:=M.str;obtain⟨a1,k1,m6,I6⟩:=M.refs;obtain⟨a2,k2,m7,I7⟩:=M.kids;have hsb:sb<w.heap.size:=hW.box.lt;have hb6l:b6<w.heap.size:=(hB b6 hb6).1;have hWt:=Wt_eq T hi;have bal:∀ o,Below w.heap.size w (w.alloc o):=fun o=>(Below.refl _ _).alloc (Nat.le_refl _) _;have BAL:=hide bal;have hF0:hF ns i t h=hF ns (kidI (nd ns i) 1).toNat (t+3+(nd ns i).refs.length) (settleF h (nd ns i).refs (t+3)):=by
  rw[hF_eq T hi ⟨fun e=>by omega,fun e=>by omega⟩];unfold stepF;simp only[hk]
 have hL0:letLen ns i=0:=by unfold letLen;rw[Int.toNat_natCast,if_neg (by omega)]
 rw[hF0,hL0,Int.add_zero];clear hF0 hL0;have HR:=hide hrf;obtain⟨kj,ej,ej',hqj,hWj⟩:=kid_le T hi (j:=1) (by omega);have Ij:=hide (I kj hqj);obtain⟨b2,o2,rfl,hS2,hc2⟩:=I7.2 (by omega);have kc:=hc2 1 (by omega);have hb2:b2<w.heap.size:=World.block_lt_of_cell? _ _ kc;rw[ej]at kc;rw[ej',Int.toNat_natCast];rw[hl]at m7;have HWj:=hide hWj;have hhb:hb<w.heap.size:=hW.row.lt;have hb2n:b2≠hb:=(hB b2 hS2).2;clear I hWj ej ej' hc2 hrf;have HW:=hide hW;have HN:=hide hN;have HB:=hide hB;have HI6:=hide I6;have HI7:=hide I7;have HWt:=hide hWt;have H1:=hide h1;have t1:t<=2000000:=by omega
 clear hW hN hB I6 I7 M hn6 hWt h1 bal;unfold own1 at HWt;generalize nd ns i=n at *;unfold own1 at HWj;have hrl:n.refs.length<=2000000:=by have:=HWj.out;have:=H1.out;omega
 have hwr:IntKind.i64.wrap (t+3)=t+3:=by rw[IntKind.wrap_i64];omega
 obtain⟨W1,hW1⟩:∃ W1:World,W1=w.alloc (.cells #[.int .i64 8,.int .i64 n.line,.int .i64 n.op,.int .i64 n.num,.float .f64 n.flt,.string n.str,.slice a1 n.refs.length k1,.slice (some ⟨b2,o2,none⟩) 2 k2] 97):=⟨_,rfl⟩;have HW1:=hide hW1;have B1:Hid (Below w.heap.size w W1):=by show Below _ _ _;rw[hW1];exact BAL.out _
 have nbs:w.heap.size<W1.heap.size:=by rw[hW1];simp
 have q0:W1.cell? ⟨w.heap.size,0,none⟩=some (.int .i64 8):=by rw[hW1];simp[go_sem]
 have q6:W1.cell? ⟨w.heap.size,6,none⟩=some (.slice a1 n.refs.length k1):=by rw[hW1];simp[go_sem]
 have q7:W1.cell? ⟨w.heap.size,7,none⟩=some (.slice (some ⟨b2,o2,none⟩) 2 k2):=by rw[hW1];simp[go_sem]
 have qk:W1.cell? ⟨b2,o2+1,none⟩=some (.int .i64 (kj:Int)):=(B1.out.cell (p:=⟨b2,o2+1,none⟩) hb2).trans kc;have CL:Hid (∀ w2,Fr (fun b=>b=hb) (fun b=>b=hb) W1 w2->w2.cell? ⟨w.heap.size,6,none⟩=some (.slice a1 n.refs.length k1)/\w2.cell? ⟨w.heap.size,7,none⟩=some (.slice (some ⟨b2,o2,none⟩) 2 k2)/\w2.cell? ⟨b2,o2+1,none⟩=some (.int .i64 (kj:Int))):=fun w2 f=>by
  have e1:=f.block w.heap.size nbs (by omega);have e2:=f.block b2 (by omega) hb2n;exact⟨(World.cell?_of_block (a:=⟨w.heap.size,6,none⟩) e1).trans q6,(World.cell?_of_block (a:=⟨w.heap.size,7,none⟩) e1).trans q7,(World.cell?_of_block (a:=⟨b2,o2+1,none⟩) e2).trans qk⟩
 have FRc:Hid (Fr (fun b=>b=hb) (fun b=>b=hb) W1 W1):=Fr.refl;have SWc:Hid (SW sb hb nv (some ⟨b6,o6,none⟩) ns.length cn W1 h):=HW.out.below B1.out;clear hW1;go_enter Tryz.func36,Tryz.ntmps36
 go_upto_region 2 with fail
 rw[<-HW1.out];clear c0 m0 m1 m2 m3 m4 m5 m6 m7;have FD:Hid (Fr (fun b=>b=hb) (fun b=>b=hb) W1 W1.drew):=FRc.out.trans (Fr.of_below (Below.refl _ _).drew);have FW:Hid (Fr (fun b=>b=hb) (fun b=>b=hb) w W1.drew):=(Fr.of_below B1.out).trans FD.out;have FX:Hid (∀ w2,Fr (fun b=>b=hb) (fun b=>b=hb) w w2->NodesAt w2 S (some ⟨b6,o6,none⟩) ns/\IntsAt w2 S a1 n.refs/\∀ b,S b->b<w2.heap.size/\b≠hb):=fun w2 f=>⟨HN.out.fr f HB.out,HI6.out.fr f HB.out,fun b hb=>⟨Nat.lt_of_lt_of_le (HB.out b hb).1 f.size,(HB.out b hb).2⟩⟩;have SWd:Hid (SW sb hb nv (some ⟨b6,o6,none⟩) ns.length cn W1.drew h):=SWc.out.below (Below.refl _ _).drew;have P1:Hid (Calls Tryz.prog 69 #[.pointer (some ⟨sb,0,none⟩),.slice a1 n.refs.length k1,.int .i64 (t+3)] W1.drew (SetPost sb hb nv (some ⟨b6,o6,none⟩) ns.length cn W1.drew (.int .i64 (t+3+n.refs.length)) (settleF h n.refs (t+3)))):=
  settle_any sb hb nv _ ns.length cn h a1 n.refs k1 (t+3) S _ SWd.out (FX.out _ FW.out).2.1 (FX.out _ FW.out).2.2 HR.out (by omega) (by omega) (by have:=HWj.out;have:=H1.out;omega)
 have P2:Hid (∀ w2,SW sb hb nv (some ⟨b6,o6,none⟩) ns.length cn w2 (settleF h n.refs (t+3))->Fr (fun b=>b=hb) (fun b=>b=hb) W1.drew w2->Calls Tryz.prog 36 #[.pointer (some ⟨sb,0,none⟩),.int .i64 (kj:Int),.int .i64 (t+3+n.refs.length)] w2 (SetPost sb hb nv (some ⟨b6,o6,none⟩) ns.length cn w2 (.int .i64 (t+3+n.refs.length+letLen ns kj)) (hF ns kj (t+3+n.refs.length) (settleF h n.refs (t+3))))):=fun w2 s2 f2=>
  Ij.out _ _ w2 s2 (FX.out _ (FW.out.trans f2)).1 (FX.out _ (FW.out.trans f2)).2.2 (by omega) (by have:=HWj.out;have:=H1.out;omega)
 go_wp2_with fail
 go_region_held3 (fun w'=>w'.cell? ⟨w.heap.size,6,none⟩=some (.slice a1 n.refs.length k1)/\w'.cell? ⟨w.heap.size,7,none⟩=some (.slice (some ⟨b2,o2,none⟩) 2 k2)/\w'.cell? ⟨b2,o2+1,none⟩=some (.int .i64 (kj:Int))) (simp[go_sem, *])
  (first
   | (go_at_call 69;refine(unhide P1).mono ?_;rintro e w2 ⟨rfl,S2,f2⟩;obtain⟨v6,v7,vk⟩:=unhide CL w2 (FD.out.trans f2))
   | (go_at_call 36;refine(unhide P2 _ S2 f2).mono ?_;rintro e w3 ⟨rfl,S3,f3⟩;obtain⟨x6,x7,xk⟩:=unhide CL w3 (FD.out.trans (f2.trans f3))))
 have R3:=hide (And.intro S3 (FW.out.trans (f2.trans f3)));clear S3 f3 S2 f2 v6 v7 vk x6 x7 xk P1 P2 CL;go_wp2_with fail
 go_ret;exact⟨rfl,R3.out.1,R3.out.2⟩
end Go.Proofs.YtomcjennjcpdnaaGreatDoor
namespace Go.Proofs.YtomcjennjcpdnaaGreatDoor
set_option maxRecDepth 100000
set_option maxHeartbeats 4000000
open Go.RowKit
attribute [local go_sem] run_store_float
theorem st_12 {sb hb nv:Nat}{an:Option Addr}{cn:Nat}{S:Nat->Prop}{ns:List NodeD}(T:TreeOk ns)(i:Nat)(hi:i<ns.length)(hk:(nd ns i).kind=12)(hl:(nd ns i).kids.length=2)(hrf:∀ j,j<(nd ns i).refs.length->0<=(nd ns i).refs[j]?.getD 0/\(nd ns i).refs[j]?.getD 0<nv)(I:∀ k,k<i->SStm sb hb nv an cn S ns k):SStm sb hb nv an cn S ns i:=by
 intro t h w hW hN hB h0 h1;obtain⟨b6,o6,rfl,hb6,hn6⟩:=hN.2 (by omega);have M:NodeCells w S b6 (o6+i * 8) (nd ns i):=hn6 i hi;have hl6:=hN.1;have c0:=hW.box.cell (i:=0) (by omega);simp at c0;have m0:=M.kind;have m1:=M.line;have m2:=M.op;have m3:=M.num;have m4:=M.flt;have m5:=M.str;obtain⟨a1,k1,m6,I6⟩:=M.refs;obtain⟨a2,k2,m7,I7⟩:=M.kids;have hsb:sb<w.heap.size:=hW.box.lt;have hb6l:b6<w.heap.size:=(hB b6 hb6).1;have hWt:=Wt_eq T hi;have bal:∀ o,Below w.heap.size w (w.alloc o):=fun o=>(Below.refl _ _).alloc (Nat.le_refl _) _;have BAL:=hide bal;have hF0:hF ns i t h=hF ns (kidI (nd ns i) 1).toNat (t+(nd ns i).refs.length) (settleF (hF ns (kidI (nd ns i) 0).toNat t h) (nd ns i).refs t):=by
  rw[hF_eq T hi ⟨fun e=>by omega,fun e=>by omega⟩];unfold stepF;simp only[hk]
 have hL0:letLen ns i=0:=by unfold letLen;rw[Int.toNat_natCast,if_neg (by omega)]
 rw[hF0,hL0,Int.add_zero];clear hF0 hL0;have HR:=hide hrf;obtain⟨kj,ej,ej',hqj,hWj⟩:=kid_le T hi (j:=1) (by omega);obtain⟨k0,e0,e0',hq0,hW0⟩:=kid_le T hi (j:=0) (by omega);have I0:=hide (I k0 hq0);have HW0:=hide hW0;rw[e0',Int.toNat_natCast];have Ij:=hide (I kj hqj);obtain⟨b2,o2,rfl,hS2,hc2⟩:=I7.2 (by omega);have kc:=hc2 1 (by omega);have hb2:b2<w.heap.size:=World.block_lt_of_cell? _ _ kc;rw[ej]at kc;rw[ej',Int.toNat_natCast];rw[hl]at m7;have HWj:=hide hWj;have hhb:hb<w.heap.size:=hW.row.lt;have hb2n:b2≠hb:=(hB b2 hS2).2;have kc0:=hc2 0 (by omega);rw[e0,Nat.add_zero]at kc0;clear hW0 e0 e0' I hWj ej ej' hc2 hrf;have HW:=hide hW;have HN:=hide hN;have HB:=hide hB;have HI6:=hide I6;have HI7:=hide I7;have HWt:=hide hWt;have H1:=hide h1;have t1:t<=2000000:=by omega
 clear hW hN hB I6 I7 M hn6 hWt h1 bal;unfold own1 at HWt;generalize nd ns i=n at *;unfold own1 at HWj HW0;have hrl:n.refs.length<=2000000:=by have:=HWj.out;have:=H1.out;omega
 obtain⟨W1,hW1⟩:∃ W1:World,W1=w.alloc (.cells #[.int .i64 12,.int .i64 n.line,.int .i64 n.op,.int .i64 n.num,.float .f64 n.flt,.string n.str,.slice a1 n.refs.length k1,.slice (some ⟨b2,o2,none⟩) 2 k2] 97):=⟨_,rfl⟩;have HW1:=hide hW1;have B1:Hid (Below w.heap.size w W1):=by show Below _ _ _;rw[hW1];exact BAL.out _
 have nbs:w.heap.size<W1.heap.size:=by rw[hW1];simp
 have q0:W1.cell? ⟨w.heap.size,0,none⟩=some (.int .i64 12):=by rw[hW1];simp[go_sem]
 have q6:W1.cell? ⟨w.heap.size,6,none⟩=some (.slice a1 n.refs.length k1):=by rw[hW1];simp[go_sem]
 have q7:W1.cell? ⟨w.heap.size,7,none⟩=some (.slice (some ⟨b2,o2,none⟩) 2 k2):=by rw[hW1];simp[go_sem]
 have qk:W1.cell? ⟨b2,o2+1,none⟩=some (.int .i64 (kj:Int)):=(B1.out.cell (p:=⟨b2,o2+1,none⟩) hb2).trans kc;have CL:Hid (∀ w2,Fr (fun b=>b=hb) (fun b=>b=hb) W1 w2->w2.cell? ⟨w.heap.size,6,none⟩=some (.slice a1 n.refs.length k1)/\w2.cell? ⟨w.heap.size,7,none⟩=some (.slice (some ⟨b2,o2,none⟩) 2 k2)/\w2.cell? ⟨b2,o2+1,none⟩=some (.int .i64 (kj:Int))):=fun w2 f=>by
  have e1:=f.block w.heap.size nbs (by omega);have e2:=f.block b2 (by omega) hb2n;exact⟨(World.cell?_of_block (a:=⟨w.heap.size,6,none⟩) e1).trans q6,(World.cell?_of_block (a:=⟨w.heap.size,7,none⟩) e1).trans q7,(World.cell?_of_block (a:=⟨b2,o2+1,none⟩) e2).trans qk⟩
 have qk0:W1.cell? ⟨b2,o2,none⟩=some (.int .i64 (k0:Int)):=(B1.out.cell (p:=⟨b2,o2,none⟩) hb2).trans kc0;have J0:=hide (I0.out t h W1 (HW.out.below B1.out) (HN.out.keep B1.out (fun b hb=>(HB.out b hb).1)) (fun b hb=>⟨Nat.lt_of_lt_of_le (HB.out b hb).1 B1.out.size,(HB.out b hb).2⟩) h0 (by have:=HW0.out;have:=H1.out;omega));clear hW1;go_enter Tryz.func36,Tryz.ntmps36
 go_upto_region 2 with fail
 rw[<-HW1.out];clear c0 m0 m1 m2 m3 m4 m5 m6 m7;go_wp2_with fail
 refine J0.out.mono ?_;rintro e w4 ⟨rfl,S4,f4⟩;obtain⟨y6,y7,yk⟩:=CL.out w4 f4;have FRc:=hide f4;have SWc:=hide S4;clear S4 f4 J0 q0 q6 q7 qk qk0;generalize hF ns k0 t h=h4 at *;have FD:Hid (Fr (fun b=>b=hb) (fun b=>b=hb) W1 w4.drew):=FRc.out.trans (Fr.of_below (Below.refl _ _).drew);have FW:Hid (Fr (fun b=>b=hb) (fun b=>b=hb) w w4.drew):=(Fr.of_below B1.out).trans FD.out;have FX:Hid (∀ w2,Fr (fun b=>b=hb) (fun b=>b=hb) w w2->NodesAt w2 S (some ⟨b6,o6,none⟩) ns/\IntsAt w2 S a1 n.refs/\∀ b,S b->b<w2.heap.size/\b≠hb):=fun w2 f=>⟨HN.out.fr f HB.out,HI6.out.fr f HB.out,fun b hb=>⟨Nat.lt_of_lt_of_le (HB.out b hb).1 f.size,(HB.out b hb).2⟩⟩;have SWd:Hid (SW sb hb nv (some ⟨b6,o6,none⟩) ns.length cn w4.drew h4):=SWc.out.below (Below.refl _ _).drew;have P1:Hid (Calls Tryz.prog 69 #[.pointer (some ⟨sb,0,none⟩),.slice a1 n.refs.length k1,.int .i64 (t)] w4.drew (SetPost sb hb nv (some ⟨b6,o6,none⟩) ns.length cn w4.drew (.int .i64 (t+n.refs.length)) (settleF h4 n.refs (t)))):=
  settle_any sb hb nv _ ns.length cn h4 a1 n.refs k1 (t) S _ SWd.out (FX.out _ FW.out).2.1 (FX.out _ FW.out).2.2 HR.out (by omega) (by omega) (by have:=HWj.out;have:=H1.out;omega)
 have P2:Hid (∀ w2,SW sb hb nv (some ⟨b6,o6,none⟩) ns.length cn w2 (settleF h4 n.refs (t))->Fr (fun b=>b=hb) (fun b=>b=hb) w4.drew w2->Calls Tryz.prog 36 #[.pointer (some ⟨sb,0,none⟩),.int .i64 (kj:Int),.int .i64 (t+n.refs.length)] w2 (SetPost sb hb nv (some ⟨b6,o6,none⟩) ns.length cn w2 (.int .i64 (t+n.refs.length+letLen ns kj)) (hF ns kj (t+n.refs.length) (settleF h4 n.refs (t))))):=fun w2 s2 f2=>
  Ij.out _ _ w2 s2 (FX.out _ (FW.out.trans f2)).1 (FX.out _ (FW.out.trans f2)).2.2 (by omega) (by have:=HWj.out;have:=H1.out;omega)
 go_wp2_with fail
 go_region_held3 (fun w'=>w'.cell? ⟨w.heap.size,6,none⟩=some (.slice a1 n.refs.length k1)/\w'.cell? ⟨w.heap.size,7,none⟩=some (.slice (some ⟨b2,o2,none⟩) 2 k2)/\w'.cell? ⟨b2,o2+1,none⟩=some (.int .i64 (kj:Int))) (simp[go_sem, *])
  (first
   | (go_at_call 69;refine(unhide P1).mono ?_;rintro e w2 ⟨rfl,S2,f2⟩;obtain⟨v6,v7,vk⟩:=unhide CL w2 (FD.out.trans f2))
   | (go_at_call 36;refine(unhide P2 _ S2 f2).mono ?_;rintro e w3 ⟨rfl,S3,f3⟩;obtain⟨x6,x7,xk⟩:=unhide CL w3 (FD.out.trans (f2.trans f3))))
 have R3:=hide (And.intro S3 (FW.out.trans (f2.trans f3)));clear S3 f3 S2 f2 v6 v7 vk x6 x7 xk P1 P2 CL;go_wp2_with fail
 go_ret;exact⟨rfl,R3.out.1,R3.out.2⟩
theorem eachF_snoc (r:Nat->HF):∀(l:List Int)(k t:Int)(h:Nat->Int),eachF r (l++[k]) t h=r k.toNat t (eachF r l t h)
 | [],_,_,_=>rfl
 | x::l,k,t,h=>by show eachF r (l++[k]) t (r x.toNat t h)=_;rw[eachF_snoc];rfl
theorem st_5 {sb hb nv:Nat}{an:Option Addr}{cn:Nat}{S:Nat->Prop}{ns:List NodeD}(T:TreeOk ns)(i:Nat)(hi:i<ns.length)(hk:(nd ns i).kind=5)(hl:(nd ns i).kids.length=2\/(nd ns i).kids.length=3)(I:∀ k,k<i->SStm sb hb nv an cn S ns k):SStm sb hb nv an cn S ns i:=by
 intro t h w hW hN hB h0 h1;obtain⟨b6,o6,rfl,hb6,hn6⟩:=hN.2 (by omega);have M:NodeCells w S b6 (o6+i * 8) (nd ns i):=hn6 i hi;have hl6:=hN.1;have c0:=hW.box.cell (i:=0) (by omega);simp at c0;have m0:=M.kind;have m1:=M.line;have m2:=M.op;have m3:=M.num;have m4:=M.flt;have m5:=M.str;obtain⟨a1,k1,m6,I6⟩:=M.refs;obtain⟨a2,k2,m7,I7⟩:=M.kids;have hsb:sb<w.heap.size:=hW.box.lt;have hb6l:b6<w.heap.size:=(hB b6 hb6).1;have hWt:=Wt_eq T hi;have bal:∀ o,Below w.heap.size w (w.alloc o):=fun o=>(Below.refl _ _).alloc (Nat.le_refl _) _;have BAL:=hide bal;have hF0:hF ns i t h=eachF (hF ns) ((nd ns i).kids.drop 1) t h:=by
  rw[hF_eq T hi ⟨fun e=>by omega,fun e=>by omega⟩];unfold stepF;simp only[hk]
 have hL0:letLen ns i=0:=by unfold letLen;rw[Int.toNat_natCast,if_neg (by omega)]
 rw[hF0,hL0,Int.add_zero];clear hF0 hL0;have hcap:(nd ns i).kids.length<=k2:=by
  obtain⟨a2',k2',m7',I7'⟩:=M.kcap;rw[m7]at m7';cases m7';exact I7'
 obtain⟨b2,o2,rfl,hS2,hc2⟩:=I7.2 (by omega);have hhb:hb<w.heap.size:=hW.row.lt;have hb2n:b2≠hb:=(hB b2 hS2).2;obtain⟨L,hL⟩:∃ L,(nd ns i).kids.length=L+1:=⟨(nd ns i).kids.length-1,by omega⟩;have hL3:1<=L/\L<=2:=by omega
 have KD:Hid (∀ j,j<L->∃ k:Nat,w.cell? ⟨b2,o2+1+j,none⟩=some (.int .i64 (k:Int))/\((nd ns i).kids.drop 1)[j]?.getD 0=(k:Int)/\SStm sb hb nv (some ⟨b6,o6,none⟩) cn S ns k/\Wt ns k<=Wt ns i):=fun j hj=>by
  obtain⟨k,e,_,hq,hWk⟩:=kid_le T hi (j:=j+1) (by omega);refine⟨k,?_,?_,I k hq,by omega⟩
  ·have:=hc2 (j+1) (by omega);rw[e]at this;rw[show o2+1+j=o2+(j+1)by omega];exact this
  ·rw[List.getElem?_drop,Nat.add_comm 1 j];exact e
 have hdl:((nd ns i).kids.drop 1).length=L:=by rw[List.length_drop];omega
 have HDL:=hide hdl;rw[hL]at m7 hcap;have hc3:1<k2:=by omega
 have hc4:0<k2-1:=by omega
 have hb2l:b2<w.heap.size:=(hB b2 hS2).1;clear I hc2 hl hL hdl;have HW:=hide hW;have HN:=hide hN;have HB:=hide hB;have HI6:=hide I6;have HI7:=hide I7;have HWt:=hide hWt;have H1:=hide h1;have t1:t<=2000000:=by omega
 clear hW hN hB I6 I7 M hn6 hWt h1 bal;unfold own1 at HWt;generalize nd ns i=n at *;generalize n.kids.drop 1=ks at *;generalize Wt ns i=wi at *;go_enter Tryz.func36,Tryz.ntmps36;go_wp2_with fail
 go_loopw [39] (fun q wr=>∃(k:Nat),k<=L/\q=.int .i64 k/\SW sb hb nv (some ⟨b6,o6,none⟩) ns.length cn wr (eachF (hF ns) (ks.take k) t h)/\Fr (fun b=>b=hb) (fun b=>b=hb) w wr) (fun q _=>L-(intOf q).toNat)
 case atStart=>exact⟨0,Nat.zero_le _,rfl,by rw[List.take_zero];exact HW.out.below (BAL.out _),.of_below (BAL.out _)⟩
 case round=>
  obtain⟨k,hkL,rfl,S1,f1⟩:=hrel;clear c0 m0 m1 m2 m3 m4 m5 m6 m7;by_cases hlt:k<L
  ·obtain⟨x,xc,xe,xI,xW⟩:=KD.out k hlt;have kc:=(World.cell?_of_block (a:=⟨b2,o2+1+k,none⟩) (f1.block b2 hb2l hb2n)).trans xc;have e1:=take_snoc (l:=ks) (k:=k) (by rw[HDL.out];exact hlt);rw[xe]at e1;have E1:Hid (eachF (hF ns) (ks.take (k+1)) t h=hF ns x t (eachF (hF ns) (ks.take k) t h)):=by show _=_;rw[e1,eachF_snoc];rfl
   have JJ:=hide (xI t _ _ S1 (HN.out.fr f1 HB.out) (fun b hb=>⟨Nat.lt_of_lt_of_le (HB.out b hb).1 f1.size,(HB.out b hb).2⟩) h0 (by have:=H1.out;omega));have F1:=hide f1;clear S1 f1 e1 xI xW xe xc;go_wp2_with fail
   refine JJ.out.mono ?_;rintro e w2 ⟨rfl,S2,f2⟩;have R2:=hide (And.intro S2 f2);clear S2 f2;go_wp2_with fail
   go_roundw
   case rel=>exact⟨k+1,hlt,by go_num,by rw[E1.out];exact R2.out.1,F1.out.trans R2.out.2⟩
   case measure=>simp[intOf];omega
  ·obtain rfl:k=L:=by omega
   have ht:ks.take k=ks:=by rw[<-HDL.out,List.take_length]
   rw[ht]at S1;have R1:=hide (And.intro S1 f1);clear S1 f1 ht;go_wp2_with fail
   go_ret;exact⟨rfl,R1.out.1,R1.out.2⟩
end Go.Proofs.YtomcjennjcpdnaaGreatDoor
namespace Go.Proofs.YtomcjennjcpdnaaGreatDoor
set_option maxRecDepth 100000
set_option maxHeartbeats 4000000
open Go.RowKit
structure RfOk (ns:List NodeD)(nv:Nat):Prop where
 tree:TreeOk ns
 shape:∀ p,p<ns.length->sShape ns p=true
 refs:∀ p,p<ns.length->(nd ns p).kind<20->∀ j,j<(nd ns p).refs.length->0<=(nd ns p).refs[j]?.getD 0/\(nd ns p).refs[j]?.getD 0<nv
theorem stm_all {sb hb nv:Nat}{an:Option Addr}{cn:Nat}{S:Nat->Prop}{ns:List NodeD}(H:RfOk ns nv)(i:Nat):i<ns.length->SStm sb hb nv an cn S ns i:=by
 induction i using Nat.strongRecOn with
 | _ i ih=>
  intro hi;have T:=H.tree;have hs:=H.shape i hi;have I:∀ k,k<i->SStm sb hb nv an cn S ns k:=fun k hk=>ih k hk (by omega);by_cases e1:(nd ns i).kind=1
  ·exact st_1 T i hi e1 I
  by_cases e2:(nd ns i).kind=2
  ·exact st_2 T i hi e2 (H.refs i hi (by omega))
  by_cases e5:(nd ns i).kind=5
  ·exact st_5 T i hi e5 (sh_5 T hi hs e5).1 I
  by_cases e6:(nd ns i).kind=6
  ·exact st_6 T i hi e6 (sh_kids2 hs e6 (by decide)) I
  by_cases e7:(nd ns i).kind=7
  ·exact st_7 T i hi e7 (sh_7 hs e7) (H.refs i hi (by omega)) I
  by_cases e8:(nd ns i).kind=8
  ·exact st_8 T i hi e8 (sh_kids2 hs e8 (by decide)) (H.refs i hi (by omega)) I
  by_cases e12:(nd ns i).kind=12
  ·exact st_12 T i hi e12 (sh_kids2 hs e12 (by decide)) (H.refs i hi (by omega)) I
  exact st_other T i hi ⟨e1,e2,e5,e6,e7,e8,e12⟩
def homes0 (p:Int)(j:Nat):Int:=if(j:Int)<p then j else -1
def firstF (fn:FnD):Int:=fn.params+(if fn.rest then 1 else 0)
def fnQ (fn:FnD)(a4:Option Addr)(c4:Nat)(a5:Option Addr)(c5:Nat)(a6:Option Addr)(c6:Nat):Value:=.agg #[.string fn.name,.int .i64 fn.line,.int .i64 fn.params,.bool fn.rest,.slice a4 fn.vars.length c4,.slice a5 fn.ups.length c5,.slice a6 fn.nodes.length c6]
theorem firstTop_any (fn:FnD)(a4:Option Addr)(c4:Nat)(a5:Option Addr)(c5:Nat)(a6:Option Addr)(c6:Nat)(w:World)(h0:0<=fn.params)(h1:fn.params<=1000000) :
  Calls Tryz.prog 37 #[fnQ fn a4 c4 a5 c5 a6 c6] w fun e w'=>e=.returned (.int .i64 (firstF fn))/\Below w.heap.size w w':=by
 unfold fnQ firstF;have hb:∀ o,Below w.heap.size w (w.alloc o):=fun o=>(Below.refl _ _).alloc (Nat.le_refl _) _;have HB:=hide hb;clear hb;cases hr:fn.rest
 all_goals
  go_enter Tryz.func37,Tryz.ntmps37;go_wp2_with fail
  go_ret;exact⟨by simp,HB.out _⟩
def HomPost (nv:Nat)(h:Nat->Int)(w:World)(e:Ending)(w':World):Prop:=
 ∃ b c,e=.returned (.slice (some ⟨b,0,none⟩) nv c)/\w.heap.size<=b/\w'.rowIs b 3 nv (fun j=>.int .i64 (h j))/\Below w.heap.size w w'
end Go.Proofs.YtomcjennjcpdnaaGreatDoor
namespace Go.Proofs.YtomcjennjcpdnaaGreatDoor
set_option maxRecDepth 100000
set_option maxHeartbeats 4000000
open Go.RowKit
theorem homesOf_any (fn:FnD)(a4:Option Addr)(c4:Nat)(a5:Option Addr)(c5:Nat)(a6:Option Addr)(c6:Nat)(S:Nat->Prop)(w:World)(hN:NodesAt w S a6 fn.nodes)(hB:∀ b,S b->b<w.heap.size)(H:RfOk fn.nodes fn.vars.length)(h0:0<=fn.params)(hp:fn.params<=fn.vars.length)(hv:fn.vars.length<=200)(hT:firstF fn+Wt fn.nodes (fn.nodes.length-1)<=2000000) :
  Calls Tryz.prog 18 #[fnQ fn a4 c4 a5 c5 a6 c6] w (HomPost fn.vars.length (hF fn.nodes (fn.nodes.length-1) (firstF fn) (homes0 fn.params)) w):=by
 have hpos:=H.tree.pos;have hl6:=hN.1;obtain⟨P,hP⟩:=Int.eq_ofNat_of_zero_le h0;have HP:=hide hP;have HN:=hide hN;have HB:=hide hB;have HH:=hide H;have HT:=hide hT;obtain⟨nv,hnv⟩:∃ nv,fn.vars.length=nv:=⟨_,rfl⟩;rw[hnv]at hp hv;rw[hP]at hp;have HNV:=hide hnv;obtain⟨ln,hln⟩:∃ ln,fn.nodes.length=ln+1:=⟨fn.nodes.length-1,by omega⟩;have HLN:=hide hln;have hlnb:ln<=9223372036854775806:=by omega
 have ft0:0<=firstF fn/\firstF fn<=1000000:=by unfold firstF;rw[hP];split<;>omega
 have FT0:=hide ft0;have HT2:Hid (firstF fn+Wt fn.nodes ln<=2000000):=by have:=hT;rw[hln,Nat.add_sub_cancel]at this;exact this
 have hmk:=run_make_row' (P:=Tryz.prog) 26 3 (.int .i64 0) 8 Tryz.underlying26 info_int rfl .i64 .i64 nv (by omega) (by omega);unfold fnQ;rw[hP,hnv,hln,Nat.add_sub_cancel];clear hN hB H hT h0 hpos hl6 ft0 hP hnv hln;go_enter Tryz.func18,Tryz.ntmps18;go_wp2_with fail
 go_region
 ·obtain⟨W2,hW2⟩:∃ W2:World,W2=(((w.alloc (.cells #[.string fn.name,.int .i64 fn.line,.int .i64 (P:Int),.bool fn.rest,.slice a4 nv c4,.slice a5 fn.ups.length c5,.slice a6 (ln+1) c6] 59)).alloc (.cells (madeCells #[.int .i64 0] nv) 3)).alloc (.cells #[.slice a6 (ln+1) c6,.slice (some ⟨w.heap.size+1,0,none⟩) nv nv] 80)).drew:=⟨_,rfl⟩;rw[<-hW2];have z1:(w.alloc (.cells #[.string fn.name,.int .i64 fn.line,.int .i64 (P:Int),.bool fn.rest,.slice a4 nv c4,.slice a5 fn.ups.length c5,.slice a6 (ln+1) c6] 59)).heap.size=w.heap.size+1:=by simp
  have z2:((w.alloc (.cells #[.string fn.name,.int .i64 fn.line,.int .i64 (P:Int),.bool fn.rest,.slice a4 nv c4,.slice a5 fn.ups.length c5,.slice a6 (ln+1) c6] 59)).alloc (.cells (madeCells #[.int .i64 0] nv) 3)).heap.size=w.heap.size+1+1:=by simp
  have z3:W2.heap.size=w.heap.size+1+1+1:=by rw[hW2];simp
  have BW:Hid (Below w.heap.size w W2):=by
   show Below _ _ _;rw[hW2];exact((((Below.refl _ _).alloc (Nat.le_refl _) _).alloc (by rw[z1];omega) _).alloc (by rw[z2];omega) _).drew
  have RB:W2.rowIs (w.heap.size+1+1) 80 2 (fun j=>if j=0 then .slice a6 (ln+1) c6 else .slice (some ⟨w.heap.size+1,0,none⟩) nv nv):=by
   have q:=Go.Deep.blk_alloc_new ((w.alloc (.cells #[.string fn.name,.int .i64 fn.line,.int .i64 (P:Int),.bool fn.rest,.slice a4 nv c4,.slice a5 fn.ups.length c5,.slice a6 (ln+1) c6] 59)).alloc (.cells (madeCells #[.int .i64 0] nv) 3)) (.cells #[.slice a6 (ln+1) c6,.slice (some ⟨w.heap.size+1,0,none⟩) nv nv] 80);rw[z2]at q;have q2:W2.heap[w.heap.size+1+1]? = some (.cells #[.slice a6 (ln+1) c6,.slice (some ⟨w.heap.size+1,0,none⟩) nv nv] 80):=by
    rw[hW2];exact q
   exact⟨_,q2,rfl,fun j hj=>by
    have:j=0\/j=1:=by omega
    rcases this with rfl | rfl<;>rfl⟩
  have RR:W2.rowIs (w.heap.size+1) 3 nv (fun _=>.int .i64 0):=by
   have q:=World.rowIs_made (w.alloc (.cells #[.string fn.name,.int .i64 fn.line,.int .i64 (P:Int),.bool fn.rest,.slice a4 nv c4,.slice a5 fn.ups.length c5,.slice a6 (ln+1) c6] 59)) (.int .i64 0) nv 3;rw[z1]at q;rw[hW2];exact(q.of_block (Below.heap_alloc _ _ _ (by rw[z2];omega))).congr fun j hj=>by simp
  have FC0:W2.cell? ⟨w.heap.size,0,none⟩=some (.string fn.name)/\W2.cell? ⟨w.heap.size,1,none⟩=some (.int .i64 fn.line)/\W2.cell? ⟨w.heap.size,2,none⟩=some (.int .i64 (P:Int))/\W2.cell? ⟨w.heap.size,3,none⟩=some (.bool fn.rest)/\W2.cell? ⟨w.heap.size,4,none⟩=some (.slice a4 nv c4)/\W2.cell? ⟨w.heap.size,5,none⟩=some (.slice a5 fn.ups.length c5)/\W2.cell? ⟨w.heap.size,6,none⟩=some (.slice a6 (ln+1) c6):=by rw[hW2];simp[go_sem]
  clear hW2 z1 z2;obtain⟨sb,hsb⟩:∃ z,w.heap.size+1+1=z:=⟨_,rfl⟩;rw[hsb]at RB ⊢;obtain⟨hb,hhb⟩:∃ z,w.heap.size+1=z:=⟨_,rfl⟩;rw[hhb]at RB RR ⊢;have hnn:w.heap.size<sb/\w.heap.size<hb:=by omega
  clear hsb hhb;have SW0:Hid (SW sb hb nv a6 (ln+1) c6 W2 (fun _=>0)):=⟨RB,RR⟩;have FC:Hid (∀ wr,Fr (fun b=>b=hb) (fun b=>b=hb) W2 wr->wr.cell? ⟨w.heap.size,0,none⟩=some (.string fn.name)/\wr.cell? ⟨w.heap.size,1,none⟩=some (.int .i64 fn.line)/\wr.cell? ⟨w.heap.size,2,none⟩=some (.int .i64 (P:Int))/\wr.cell? ⟨w.heap.size,3,none⟩=some (.bool fn.rest)/\wr.cell? ⟨w.heap.size,4,none⟩=some (.slice a4 nv c4)/\wr.cell? ⟨w.heap.size,5,none⟩=some (.slice a5 fn.ups.length c5)/\wr.cell? ⟨w.heap.size,6,none⟩=some (.slice a6 (ln+1) c6)):=fun wr f=>by
   have e:=f.block w.heap.size (by omega) (by omega);have c:=fun o=>World.cell?_of_block (a:=⟨w.heap.size,o,none⟩) e;exact⟨(c 0).trans FC0.1,(c 1).trans FC0.2.1,(c 2).trans FC0.2.2.1,(c 3).trans FC0.2.2.2.1,(c 4).trans FC0.2.2.2.2.1,(c 5).trans FC0.2.2.2.2.2.1,(c 6).trans FC0.2.2.2.2.2.2⟩
  clear hmk RB RR FC0;have s1:=SW0.out.box.cell (i:=1) (by omega);simp at s1;go_wp2_with fail
  go_loopw [16] (fun q wr=>∃(k:Nat),k<=nv/\q=.int .i64 k/\SW sb hb nv a6 (ln+1) c6 wr (fun j=>if j<k then -1 else 0)/\Fr (fun b=>b=hb) (fun b=>b=hb) W2 wr) (fun q _=>nv-(intOf q).toNat)
  case atStart=>exact⟨0,Nat.zero_le _,rfl,⟨SW0.out.box,SW0.out.row.congr fun j hj=>by simp⟩,Fr.refl⟩
  case round=>
   obtain⟨k,hk,rfl,S1,f1⟩:=hrel;clear s1;by_cases hlt:k<nv
   ·have c1:=S1.box.cell (i:=1) (by omega);have r1:=S1.row.cell hlt;have z1:=S1.row.frozen k;simp at c1;have R1:=hide (And.intro S1 f1);clear S1 f1;go_wp2_with fail
    go_roundw
    case rel=>
     obtain⟨S1,f1⟩:=R1.out;refine⟨k+1,hlt,by go_num,?_,f1.set (a:=⟨hb,k,none⟩) rfl _⟩;have S2:=S1.set k (-1);refine⟨S2.box,S2.row.congr fun j hj=>?_⟩;unfold updF;by_cases e:j=k
     ·subst e;simp
     ·have:(j<k+1)=(j<k):=by apply propext;omega
      simp[e,this]
    case measure=>simp[intOf];omega
   ·obtain⟨g0,g1,g2,g3,g4,g5,g6⟩:=FC.out wr f1;have R1:=hide (And.intro S1 f1);have hkn:Hid (k=nv):=by show k=nv;omega
    clear S1 f1;go_wp2_with fail
    clear g0 g1 g2 g3 g4 g5 g6;go_loopw [26] (fun q wr=>∃(j:Nat),j<=P/\q=.int .i64 j/\SW sb hb nv a6 (ln+1) c6 wr (fun i=>if i<j then(i:Int)else -1)/\Fr (fun b=>b=hb) (fun b=>b=hb) W2 wr) (fun q _=>P-(intOf q).toNat)
    case atStart=>exact⟨0,Nat.zero_le _,rfl,⟨R1.out.1.box,R1.out.1.row.congr fun j hj=>by simp[hkn.out,hj]⟩,R1.out.2⟩
    case round=>
     obtain⟨j,hj,rfl,S1,f1⟩:=hrel;by_cases hlt2:j<P
     ·have c1:=S1.box.cell (i:=1) (by omega);have hjn:j<nv:=by omega
      have r1:=S1.row.cell hjn;have z1:=S1.row.frozen j;simp at c1;have R2:=hide (And.intro S1 f1);clear S1 f1;go_wp2_with fail
      go_roundw
      case rel=>
       obtain⟨S1,f1⟩:=R2.out;refine⟨j+1,hlt2,by go_num,?_,f1.set (a:=⟨hb,j,none⟩) rfl _⟩;have S2:=S1.set j (j:Int);refine⟨S2.box,S2.row.congr fun i hi=>?_⟩;unfold updF;by_cases e:i=j
       ·subst e;simp
       ·have:(i<j+1)=(i<j):=by apply propext;omega
        simp[e,this]
      case measure=>simp[intOf];omega
     ·obtain rfl:j=P:=by omega
      obtain⟨g0,g1,g2,g3,g4,g5,g6⟩:=FC.out wr f1;have hsz:w.heap.size<wr.heap.size:=by have:=f1.size;omega
      have FD:Hid (Fr (fun b=>b=hb) (fun b=>b=hb) W2 wr.drew):=f1.trans (Fr.of_below (Below.refl _ _).drew);have rH:wr.rowIs hb 3 nv (fun i=>.int .i64 (homes0 j i)):=S1.row.congr fun i hi=>by unfold homes0;simp
      have SD:Hid (SW sb hb nv a6 (ln+1) c6 wr.drew (homes0 j)):=⟨S1.box.of_block rfl,rH.of_block rfl⟩;have P1:Hid (Calls Tryz.prog 37 #[.agg #[.string fn.name,.int .i64 fn.line,.int .i64 (j:Int),.bool fn.rest,.slice a4 nv c4,.slice a5 fn.ups.length c5,.slice a6 (ln+1) c6]] wr.drew fun e w'=>e=.returned (.int .i64 (firstF fn))/\Below wr.heap.size wr.drew w'):=by
       have q:=firstTop_any fn a4 c4 a5 c5 a6 c6 wr.drew (by rw[HP.out];omega) (by rw[HP.out];omega);unfold fnQ at q;rw[HP.out,HNV.out,HLN.out]at q;exact q
      have P2:Hid (∀ w2,Below wr.heap.size wr.drew w2->Calls Tryz.prog 36 #[.pointer (some ⟨sb,0,none⟩),.int .i64 (ln:Int),.int .i64 (firstF fn)] w2 (SetPost sb hb nv a6 (ln+1) c6 w2 (.int .i64 (firstF fn+letLen fn.nodes ln)) (hF fn.nodes ln (firstF fn) (homes0 j)))):=fun w2 b2=>by
       have f2:Fr (fun b=>b=hb) (fun b=>b=hb) W2 w2:=FD.out.trans (.of_below b2);have q:=stm_all (sb:=sb) (hb:=hb) (an:=a6) (cn:=c6) (S:=S) HH.out ln (by rw[HLN.out];omega) (firstF fn) (homes0 j) w2;rw[HNV.out,HLN.out]at q;exact q (SD.out.below b2) ((HN.out.keep BW.out HB.out).fr f2 (fun b hb'=>⟨Nat.lt_of_lt_of_le (HB.out b hb') BW.out.size,fun(e:b=hb)=>by have:=HB.out b hb';omega⟩)) (fun b hb'=>⟨Nat.lt_of_lt_of_le (HB.out b hb') (Nat.le_trans BW.out.size f2.size),by have:=HB.out b hb';omega⟩) FT0.out.1 HT2.out
      have hs:IntKind.i64.wrap (ln:Int)=ln:=by rw[IntKind.wrap_i64];omega
      clear S1 f1 rH;go_wp2_with fail
      go_region_held3 (fun w'=>w'.cell? ⟨w.heap.size,0,none⟩=some (.string fn.name)/\w'.cell? ⟨w.heap.size,1,none⟩=some (.int .i64 fn.line)/\w'.cell? ⟨w.heap.size,2,none⟩=some (.int .i64 (j:Int))/\w'.cell? ⟨w.heap.size,3,none⟩=some (.bool fn.rest)/\w'.cell? ⟨w.heap.size,4,none⟩=some (.slice a4 nv c4)/\w'.cell? ⟨w.heap.size,5,none⟩=some (.slice a5 fn.ups.length c5)/\w'.cell? ⟨w.heap.size,6,none⟩=some (.slice a6 (ln+1) c6)) (simp[go_sem, *])
       (first
        | (go_at_call 37;refine(unhide P1).mono ?_;rintro e w2 ⟨rfl,b2⟩;obtain⟨v0,v1,v2,v3,v4,v5,v6⟩:=unhide FC w2 (FD.out.trans (.of_below b2)))
        | (go_at_call 36;refine(unhide P2 _ b2).mono ?_;rintro e w3 ⟨rfl,S3,f3⟩;obtain⟨x0,x1,x2,x3,x4,x5,x6⟩:=unhide FC w3 ((FD.out.trans (.of_below b2)).trans f3)))
      have FW:Hid (Fr (fun b=>b=hb) (fun b=>b=hb) W2 w3):=(FD.out.trans (.of_below b2)).trans f3;have c1:=S3.box.cell (i:=1) (by omega);simp at c1;have R4:=hide S3;clear S3 f3 b2 v0 v1 v2 v3 v4 v5 v6 x0 x1 x2 x3 x4 x5 x6 P1 P2 FC;go_wp2_with fail
      go_ret;refine⟨_,_,rfl,by omega,R4.out.row,BW.out.trans ?_⟩;exact⟨FW.out.os,FW.out.tape,FW.out.output,FW.out.size,fun b hb'=>FW.out.block b (Nat.lt_of_lt_of_le hb' BW.out.size) (by omega)⟩
 ·obtain⟨W2,hW2⟩:∃ W2:World,W2=(((w.alloc (.cells #[.string fn.name,.int .i64 fn.line,.int .i64 (P:Int),.bool fn.rest,.slice a4 nv c4,.slice a5 fn.ups.length c5,.slice a6 (ln+1) c6] 59)).alloc (.cells #[.slice a6 (ln+1) c6,.slice (some ⟨w.heap.size+1+1,0,none⟩) nv nv] 80)).alloc (.cells (madeCells #[.int .i64 0] nv) 3)).drew:=⟨_,rfl⟩;rw[<-hW2];have z1:(w.alloc (.cells #[.string fn.name,.int .i64 fn.line,.int .i64 (P:Int),.bool fn.rest,.slice a4 nv c4,.slice a5 fn.ups.length c5,.slice a6 (ln+1) c6] 59)).heap.size=w.heap.size+1:=by simp
  have z2:((w.alloc (.cells #[.string fn.name,.int .i64 fn.line,.int .i64 (P:Int),.bool fn.rest,.slice a4 nv c4,.slice a5 fn.ups.length c5,.slice a6 (ln+1) c6] 59)).alloc (.cells #[.slice a6 (ln+1) c6,.slice (some ⟨w.heap.size+1+1,0,none⟩) nv nv] 80)).heap.size=w.heap.size+1+1:=by simp
  have z3:W2.heap.size=w.heap.size+1+1+1:=by rw[hW2];simp
  have BW:Hid (Below w.heap.size w W2):=by
   show Below _ _ _;rw[hW2];exact((((Below.refl _ _).alloc (Nat.le_refl _) _).alloc (by rw[z1];omega) _).alloc (by rw[z2];omega) _).drew
  have RB:W2.rowIs (w.heap.size+1) 80 2 (fun j=>if j=0 then .slice a6 (ln+1) c6 else .slice (some ⟨w.heap.size+1+1,0,none⟩) nv nv):=by
   have q:=Go.Deep.blk_alloc_new (w.alloc (.cells #[.string fn.name,.int .i64 fn.line,.int .i64 (P:Int),.bool fn.rest,.slice a4 nv c4,.slice a5 fn.ups.length c5,.slice a6 (ln+1) c6] 59)) (.cells #[.slice a6 (ln+1) c6,.slice (some ⟨w.heap.size+1+1,0,none⟩) nv nv] 80);rw[z1]at q;have q2:W2.heap[w.heap.size+1]? = some (.cells #[.slice a6 (ln+1) c6,.slice (some ⟨w.heap.size+1+1,0,none⟩) nv nv] 80):=by
    rw[hW2];exact(Below.heap_alloc _ _ _ (by rw[z2];omega)).trans q
   exact⟨_,q2,rfl,fun j hj=>by
    have:j=0\/j=1:=by omega
    rcases this with rfl | rfl<;>rfl⟩
  have RR:W2.rowIs (w.heap.size+1+1) 3 nv (fun _=>.int .i64 0):=by
   have q:=World.rowIs_made ((w.alloc (.cells #[.string fn.name,.int .i64 fn.line,.int .i64 (P:Int),.bool fn.rest,.slice a4 nv c4,.slice a5 fn.ups.length c5,.slice a6 (ln+1) c6] 59)).alloc (.cells #[.slice a6 (ln+1) c6,.slice (some ⟨w.heap.size+1+1,0,none⟩) nv nv] 80)) (.int .i64 0) nv 3;rw[z2]at q;rw[hW2];exact(q.of_block rfl).congr fun j hj=>by simp
  have FC0:W2.cell? ⟨w.heap.size,0,none⟩=some (.string fn.name)/\W2.cell? ⟨w.heap.size,1,none⟩=some (.int .i64 fn.line)/\W2.cell? ⟨w.heap.size,2,none⟩=some (.int .i64 (P:Int))/\W2.cell? ⟨w.heap.size,3,none⟩=some (.bool fn.rest)/\W2.cell? ⟨w.heap.size,4,none⟩=some (.slice a4 nv c4)/\W2.cell? ⟨w.heap.size,5,none⟩=some (.slice a5 fn.ups.length c5)/\W2.cell? ⟨w.heap.size,6,none⟩=some (.slice a6 (ln+1) c6):=by rw[hW2];simp[go_sem]
  clear hW2 z1 z2;obtain⟨hb,hhb⟩:∃ z,w.heap.size+1+1=z:=⟨_,rfl⟩;rw[hhb]at RB RR ⊢;obtain⟨sb,hsb⟩:∃ z,w.heap.size+1=z:=⟨_,rfl⟩;rw[hsb]at RB ⊢;have hnn:w.heap.size<sb/\w.heap.size<hb:=by omega
  clear hsb hhb;have SW0:Hid (SW sb hb nv a6 (ln+1) c6 W2 (fun _=>0)):=⟨RB,RR⟩;have FC:Hid (∀ wr,Fr (fun b=>b=hb) (fun b=>b=hb) W2 wr->wr.cell? ⟨w.heap.size,0,none⟩=some (.string fn.name)/\wr.cell? ⟨w.heap.size,1,none⟩=some (.int .i64 fn.line)/\wr.cell? ⟨w.heap.size,2,none⟩=some (.int .i64 (P:Int))/\wr.cell? ⟨w.heap.size,3,none⟩=some (.bool fn.rest)/\wr.cell? ⟨w.heap.size,4,none⟩=some (.slice a4 nv c4)/\wr.cell? ⟨w.heap.size,5,none⟩=some (.slice a5 fn.ups.length c5)/\wr.cell? ⟨w.heap.size,6,none⟩=some (.slice a6 (ln+1) c6)):=fun wr f=>by
   have e:=f.block w.heap.size (by omega) (by omega);have c:=fun o=>World.cell?_of_block (a:=⟨w.heap.size,o,none⟩) e;exact⟨(c 0).trans FC0.1,(c 1).trans FC0.2.1,(c 2).trans FC0.2.2.1,(c 3).trans FC0.2.2.2.1,(c 4).trans FC0.2.2.2.2.1,(c 5).trans FC0.2.2.2.2.2.1,(c 6).trans FC0.2.2.2.2.2.2⟩
  clear hmk RB RR FC0;have s1:=SW0.out.box.cell (i:=1) (by omega);simp at s1;go_wp2_with fail
  go_loopw [16] (fun q wr=>∃(k:Nat),k<=nv/\q=.int .i64 k/\SW sb hb nv a6 (ln+1) c6 wr (fun j=>if j<k then -1 else 0)/\Fr (fun b=>b=hb) (fun b=>b=hb) W2 wr) (fun q _=>nv-(intOf q).toNat)
  case atStart=>exact⟨0,Nat.zero_le _,rfl,⟨SW0.out.box,SW0.out.row.congr fun j hj=>by simp⟩,Fr.refl⟩
  case round=>
   obtain⟨k,hk,rfl,S1,f1⟩:=hrel;clear s1;by_cases hlt:k<nv
   ·have c1:=S1.box.cell (i:=1) (by omega);have r1:=S1.row.cell hlt;have z1:=S1.row.frozen k;simp at c1;have R1:=hide (And.intro S1 f1);clear S1 f1;go_wp2_with fail
    go_roundw
    case rel=>
     obtain⟨S1,f1⟩:=R1.out;refine⟨k+1,hlt,by go_num,?_,f1.set (a:=⟨hb,k,none⟩) rfl _⟩;have S2:=S1.set k (-1);refine⟨S2.box,S2.row.congr fun j hj=>?_⟩;unfold updF;by_cases e:j=k
     ·subst e;simp
     ·have:(j<k+1)=(j<k):=by apply propext;omega
      simp[e,this]
    case measure=>simp[intOf];omega
   ·obtain⟨g0,g1,g2,g3,g4,g5,g6⟩:=FC.out wr f1;have R1:=hide (And.intro S1 f1);have hkn:Hid (k=nv):=by show k=nv;omega
    clear S1 f1;go_wp2_with fail
    clear g0 g1 g2 g3 g4 g5 g6;go_loopw [26] (fun q wr=>∃(j:Nat),j<=P/\q=.int .i64 j/\SW sb hb nv a6 (ln+1) c6 wr (fun i=>if i<j then(i:Int)else -1)/\Fr (fun b=>b=hb) (fun b=>b=hb) W2 wr) (fun q _=>P-(intOf q).toNat)
    case atStart=>exact⟨0,Nat.zero_le _,rfl,⟨R1.out.1.box,R1.out.1.row.congr fun j hj=>by simp[hkn.out,hj]⟩,R1.out.2⟩
    case round=>
     obtain⟨j,hj,rfl,S1,f1⟩:=hrel;by_cases hlt2:j<P
     ·have c1:=S1.box.cell (i:=1) (by omega);have hjn:j<nv:=by omega
      have r1:=S1.row.cell hjn;have z1:=S1.row.frozen j;simp at c1;have R2:=hide (And.intro S1 f1);clear S1 f1;go_wp2_with fail
      go_roundw
      case rel=>
       obtain⟨S1,f1⟩:=R2.out;refine⟨j+1,hlt2,by go_num,?_,f1.set (a:=⟨hb,j,none⟩) rfl _⟩;have S2:=S1.set j (j:Int);refine⟨S2.box,S2.row.congr fun i hi=>?_⟩;unfold updF;by_cases e:i=j
       ·subst e;simp
       ·have:(i<j+1)=(i<j):=by apply propext;omega
        simp[e,this]
      case measure=>simp[intOf];omega
     ·obtain rfl:j=P:=by omega
      obtain⟨g0,g1,g2,g3,g4,g5,g6⟩:=FC.out wr f1;have hsz:w.heap.size<wr.heap.size:=by have:=f1.size;omega
      have FD:Hid (Fr (fun b=>b=hb) (fun b=>b=hb) W2 wr.drew):=f1.trans (Fr.of_below (Below.refl _ _).drew);have rH:wr.rowIs hb 3 nv (fun i=>.int .i64 (homes0 j i)):=S1.row.congr fun i hi=>by unfold homes0;simp
      have SD:Hid (SW sb hb nv a6 (ln+1) c6 wr.drew (homes0 j)):=⟨S1.box.of_block rfl,rH.of_block rfl⟩;have P1:Hid (Calls Tryz.prog 37 #[.agg #[.string fn.name,.int .i64 fn.line,.int .i64 (j:Int),.bool fn.rest,.slice a4 nv c4,.slice a5 fn.ups.length c5,.slice a6 (ln+1) c6]] wr.drew fun e w'=>e=.returned (.int .i64 (firstF fn))/\Below wr.heap.size wr.drew w'):=by
       have q:=firstTop_any fn a4 c4 a5 c5 a6 c6 wr.drew (by rw[HP.out];omega) (by rw[HP.out];omega);unfold fnQ at q;rw[HP.out,HNV.out,HLN.out]at q;exact q
      have P2:Hid (∀ w2,Below wr.heap.size wr.drew w2->Calls Tryz.prog 36 #[.pointer (some ⟨sb,0,none⟩),.int .i64 (ln:Int),.int .i64 (firstF fn)] w2 (SetPost sb hb nv a6 (ln+1) c6 w2 (.int .i64 (firstF fn+letLen fn.nodes ln)) (hF fn.nodes ln (firstF fn) (homes0 j)))):=fun w2 b2=>by
       have f2:Fr (fun b=>b=hb) (fun b=>b=hb) W2 w2:=FD.out.trans (.of_below b2);have q:=stm_all (sb:=sb) (hb:=hb) (an:=a6) (cn:=c6) (S:=S) HH.out ln (by rw[HLN.out];omega) (firstF fn) (homes0 j) w2;rw[HNV.out,HLN.out]at q;exact q (SD.out.below b2) ((HN.out.keep BW.out HB.out).fr f2 (fun b hb'=>⟨Nat.lt_of_lt_of_le (HB.out b hb') BW.out.size,fun(e:b=hb)=>by have:=HB.out b hb';omega⟩)) (fun b hb'=>⟨Nat.lt_of_lt_of_le (HB.out b hb') (Nat.le_trans BW.out.size f2.size),by have:=HB.out b hb';omega⟩) FT0.out.1 HT2.out
      have hs:IntKind.i64.wrap (ln:Int)=ln:=by rw[IntKind.wrap_i64];omega
      clear S1 f1 rH;go_wp2_with fail
      go_region_held3 (fun w'=>w'.cell? ⟨w.heap.size,0,none⟩=some (.string fn.name)/\w'.cell? ⟨w.heap.size,1,none⟩=some (.int .i64 fn.line)/\w'.cell? ⟨w.heap.size,2,none⟩=some (.int .i64 (j:Int))/\w'.cell? ⟨w.heap.size,3,none⟩=some (.bool fn.rest)/\w'.cell? ⟨w.heap.size,4,none⟩=some (.slice a4 nv c4)/\w'.cell? ⟨w.heap.size,5,none⟩=some (.slice a5 fn.ups.length c5)/\w'.cell? ⟨w.heap.size,6,none⟩=some (.slice a6 (ln+1) c6)) (simp[go_sem, *])
       (first
        | (go_at_call 37;refine(unhide P1).mono ?_;rintro e w2 ⟨rfl,b2⟩;obtain⟨v0,v1,v2,v3,v4,v5,v6⟩:=unhide FC w2 (FD.out.trans (.of_below b2)))
        | (go_at_call 36;refine(unhide P2 _ b2).mono ?_;rintro e w3 ⟨rfl,S3,f3⟩;obtain⟨x0,x1,x2,x3,x4,x5,x6⟩:=unhide FC w3 ((FD.out.trans (.of_below b2)).trans f3)))
      have FW:Hid (Fr (fun b=>b=hb) (fun b=>b=hb) W2 w3):=(FD.out.trans (.of_below b2)).trans f3;have c1:=S3.box.cell (i:=1) (by omega);simp at c1;have R4:=hide S3;clear S3 f3 b2 v0 v1 v2 v3 v4 v5 v6 x0 x1 x2 x3 x4 x5 x6 P1 P2 FC;go_wp2_with fail
      go_ret;refine⟨_,_,rfl,by omega,R4.out.row,BW.out.trans ?_⟩;exact⟨FW.out.os,FW.out.tape,FW.out.output,FW.out.size,fun b hb'=>FW.out.block b (Nat.lt_of_lt_of_le hb' BW.out.size) (by omega)⟩
end Go.Proofs.YtomcjennjcpdnaaGreatDoor

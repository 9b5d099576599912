import Derived.Test.YtomcjennjcpdnaaGreatDoorPart30
set_option linter.unusedSimpArgs false
set_option linter.unusedVariables false
set_option maxHeartbeats 8000000
namespace Go.Proofs.YtomcjennjcpdnaaGreatDoor
set_option maxRecDepth 100000
set_option maxHeartbeats 4000000
open Go.RowKit
attribute [local go_sem] run_store_float
theorem literal_any {F:CF}{l:List FnD}{f:Nat}{S:Nat->Prop}(U:UOk F l f S)(X:CX)(n:NodeD)(a1 a2:Option Addr)(c1 c2:Nat)(w:World)(h:CC F X w)(ek:n.kind=35)(r1:IntsAt w S a1 n.refs)(r2:IntsAt w S a2 n.kids)
  (hev:n.kids.length % 2=0)(h200:n.kids.length<=200)(hop:n.op=1->2<=n.kids.length/\ManyOk F (fnD l f).nodes (n.kids[n.kids.length-1]?.getD 0).toNat)
  (hn:∀ k∈n.kids,0<=k)(I1:∀ k∈n.kids,OneOk F (fnD l f).nodes k.toNat)(B:Bud X (sumAll (wk (fnD l f).nodes) n.kids+4)) :
  Calls Tryz.prog 119 #[.pointer (some ⟨F.cb,0,none⟩),.agg #[.int .i64 35,.int .i64 n.line,.int .i64 n.op,.int .i64 n.num,.float .f64 n.flt,.string n.str,.slice a1 n.refs.length c1,.slice a2 n.kids.length c2]] w (CPost F X w (.tuple #[]) (X.top+1) X.home (2000000 * sumAll (wk (fnD l f).nodes) n.kids+202)):=by
 have t0:=B.t0;have t1:X.top<=2000000:=by have:=B.t1;omega
 obtain⟨L,hL⟩:∃ L,n.kids.length=L:=⟨_,rfl⟩;have N1:=hide (NBox.new (p1:=c1) (p2:=c2) ek rfl hL U h r1 r2);have HU:=hide U;have H:=hide h;have HB:=hide B;have HN:=hide hn;have HI:=hide I1;have HO:=hide hop;have hnk:=B.nk;rw[hL];rw[hL]at h200 hev;have HE:=hide hev;have HL:=hide hL;clear h B U r1 r2 hn I1 hop hL hev;go_enter Tryz.func119,Tryz.ntmps119;go_wp2_with fail
 refine(push_c F X _ (H.out.alloc _) t0 (by omega) hnk).mono ?_;rintro e w1 ⟨X1,rfl,C1,f1,s1⟩;have N2:=hide (NBox.step N1.out HU.out (H.out.alloc _) f1);have R1:=hide (And.intro C1 (And.intro ((Fr.refl.alloc _).trans f1) s1));clear C1 f1 s1 N1;go_wp2_with fail
 refine(put_c F X1 _ _ _ _ _ _ R1.out.1 (by have:=R1.out.2.2.n2;have:=HB.out.n1;omega) R1.out.2.2.nk).mono ?_;rintro e w2 ⟨X2,rfl,C2,f2,s2,_⟩;rw[R1.out.2.2.top,R1.out.2.2.home]at s2;have N3:=hide (NBox.step N2.out HU.out R1.out.1 f2);have R2:=hide (And.intro C2 (And.intro (R1.out.2.1.trans f2) (R1.out.2.2.trans s2)));clear C2 f2 s2 R1 N2;go_wp2_with fail
 go_loopw [5] (fun q wr=>∃(k:Nat) (X3:CX),k<=L/\Hid (k % 2=0)/\q=.int .i64 k/\CC F X3 wr/\Fr X.O X3.O w wr/\St X X3 (X.top+1) X.home (2000000 * sumTo (wk (fnD l f).nodes) n.kids k+k+1)/\NBox S w.heap.size n a1 c1 a2 c2 X3 wr) (fun q _=>L-(intOf q).toNat)
 case atStart=>exact⟨0,X2,Nat.zero_le _,rfl,rfl,R2.out.1,R2.out.2.1,R2.out.2.2.le (by omega),N3.out⟩
 case round=>
  obtain⟨k,X3,hk,hke,rfl,C3,f3,s3,N4⟩:=hrel;have n7:=N4.c7;have n2:=N4.c2;rw[HL.out]at n7;by_cases hlt:k<L
  ·have hlt2:k+1<L:=by have:=hke.out;have:=HE.out;omega
   have hg1:k<n.kids.length:=by rw[HL.out];exact hlt
   have hg2:k+1<n.kids.length:=by rw[HL.out];exact hlt2
   obtain⟨b,o,rfl⟩:=N4.kids.some_of (by omega);have kc:=N4.kids.cellAt hg1;have hm1:n.kids[k]?.getD 0∈n.kids:=by rw[List.getElem?_eq_getElem hg1];exact List.getElem_mem _
   have hm2:n.kids[k+1]?.getD 0∈n.kids:=by rw[List.getElem?_eq_getElem hg2];exact List.getElem_mem _
   obtain⟨x,hx⟩:=Int.eq_ofNat_of_zero_le (HN.out _ hm1);obtain⟨y,hy⟩:=Int.eq_ofNat_of_zero_le (HN.out _ hm2);have q1:=sumTo_succ (wk (fnD l f).nodes) n.kids k 0 hg1;have q2:=sumTo_succ (wk (fnD l f).nodes) n.kids (k+1) 0 hg2;have q3:=sumTo_le (wk (fnD l f).nodes) n.kids (k+1+1);have J1:=HI.out _ hm1;have J2:=HI.out _ hm2;rw[hx]at kc q1 J1;rw[hy]at q2 J2;simp only[wk,Int.toNat_natCast]at q1 q2 J1 J2;have B3:Bud X3 (Wt (fnD l f).nodes x):=⟨by rw[s3.top];omega,by rw[s3.top];have:=HB.out.t1;omega,by rw[s3.ms];have:=HB.out.m1;omega,by have:=s3.n2;have:=HB.out.n1;omega,s3.nk⟩;have J1:=hide (J1 X3 _ C3 B3);have HJ2:Hid (OneOk F (fnD l f).nodes y):=J2;have HY:=hide hy;have hmany:Hid (n.op=1->k+1+1=L->ManyOk F (fnD l f).nodes y):=fun ho hl2=>by
    have:=(HO.out ho).2;rw[HL.out,show L-1=k+1 by omega,hy]at this;exact this
   have R3:=hide (And.intro C3 (And.intro f3 (And.intro s3 (And.intro N4 (And.intro q1 (And.intro q2 q3))))));clear C3 f3 s3 B3 q1 q2 q3 J2 hx hm1 hm2 hg1 N4 hy;generalize hW1:Wt (fnD l f).nodes x=W1 at *;generalize hW2:Wt (fnD l f).nodes y=W2 at *;have HW2:=hide hW2;clear hW1 hW2;go_wp2_with fail
   refine J1.out.mono ?_;rintro e w4 ⟨X4,rfl,C4,f4,s4⟩;have N5:=NBox.step R3.out.2.2.2.1 HU.out R3.out.1 f4;have n7':=N5.c7;have n2':=N5.c2;rw[HL.out]at n7';have kc':=N5.kids.cellAt hg2;rw[HY.out]at kc';have s4':St X X4 (X3.top+1) X.home (2000000 * sumTo (wk (fnD l f).nodes) n.kids k+k+1+2000000 * W1):=by have:=R3.out.2.2.1.trans s4;rw[R3.out.2.2.1.home]at this;exact this
   have ht4:X4.top=X.top+2:=by rw[s4.top,R3.out.2.2.1.top];omega
   have B4:Bud X4 (Wt (fnD l f).nodes y):=by
    obtain⟨_,_,s3,_,q1,q2,q3⟩:=R3.out;rw[HW2.out];exact⟨by omega,by have:=HB.out.t1;omega,by rw[s4'.ms];have:=HB.out.m1;omega,by have:=s4'.n2;have:=HB.out.n1;omega,s4'.nk⟩
   have R4:=hide (And.intro C4 (And.intro (R3.out.2.1.trans f4) (And.intro s4' (And.intro N5 B4))));have FIN:Hid (∀(w5 w6:World) (X5 X6:CX),CC F X5 w5->Fr X4.O X5.O w4 w5->St X4 X5 (X4.top+1) X4.home (2000000 * W2)->CC F X6 w6->Fr X5.O X6.O w5 w6->St X5 X6 X5.top X5.home 1 ->
     ∃(k_1:Nat) (X3:CX),k_1<=L/\Hid (k_1 % 2=0)/\(Value.int .i64 ((k:Int)+2))=.int .i64 k_1/\CC F X3 (w6.setCell ⟨F.cb,11,none⟩ (.int .i64 (X.top+1)))/\Fr X.O X3.O w (w6.setCell ⟨F.cb,11,none⟩ (.int .i64 (X.top+1)))/\St X X3 (X.top+1) X.home (2000000 * sumTo (wk (fnD l f).nodes) n.kids k_1+k_1+1)/\NBox S w.heap.size n a1 c1 (some ⟨b,o,none⟩) c2 X3 (w6.setCell ⟨F.cb,11,none⟩ (.int .i64 (X.top+1)))):=fun w5 w6 X5 X6 C5 f5 s5 C6 f6 s6=>by
    obtain⟨_,_,_,_,q1,q2,_⟩:=R3.out;obtain⟨C4,f4,s4,N5,_⟩:=R4.out;have g5:=(f4.trans f5).trans f6;have g6:=g5.set (a:=⟨F.cb,11,none⟩) C6.ocb (.int .i64 (X.top+1));have N6:=(N5.step HU.out C4 f5).step HU.out C5 f6;have N7:NBox S w.heap.size n a1 c1 (some ⟨b,o,none⟩) c2 { X6 with top:=X.top+1 } (w6.setCell ⟨F.cb,11,none⟩ (.int .i64 (X.top+1))):=N6.step HU.out C6 (Fr.refl.set (a:=⟨F.cb,11,none⟩) C6.ocb _);exact⟨k+2,_,by omega,by show _=_;have:=hke.out;omega,by push_cast;rfl,C6.top _,g6,⟨rfl,by show X6.home=_;rw[s6.home,s5.home,s4.home],by show X6.ms=_;rw[s6.ms,s5.ms,s4.ms],by have:=s4.n1;have:=s5.n1;have:=s6.n1;simp only;omega,by have:=s4.n2;have:=s5.n2;have:=s6.n2;rw[q2];simp only;omega,s6.nk⟩,N7⟩
   clear C4 f4 s4 s4' N5 B4 J1 hg2 kc n7 n2;have BN:Hid (∀ X5,St X4 X5 (X4.top+1) X4.home (2000000 * W2)->X5.n<2400000000000):=fun X5 s5=>by
    obtain⟨_,_,_,_,q1,q2,q3⟩:=R3.out;have:=R4.out.2.2.1.n2;have:=s5.n2;have:=HB.out.n1;omega
   have DONE:Hid (∀(w5:World) (X5:CX) (o:Int) (a:Int) (b:Int),CC F X5 w5->St X4 X5 (X4.top+1) X4.home (2000000 * W2)->Calls Tryz.prog 30 #[.pointer (some ⟨F.cb,0,none⟩),.int .i64 o,.int .i64 X.top,.int .i64 a,.int .i64 b,.int .i64 0] w5 (PutC F X5 w5)):=fun w5 X5 o a b C5 s5=>put_c F X5 _ _ _ _ _ _ C5 (BN.out _ s5) s5.nk;cases hob:n.op==1
   ·go_wp2_with fail
    refine(HJ2.out X4 _ R4.out.1 R4.out.2.2.2.2).mono ?_;rw[HW2.out];rintro e w5 ⟨X5,rfl,C5,f5,s5⟩;have R5:=hide (And.intro C5 (And.intro f5 s5));clear C5 f5 s5;go_wp2_with fail
    refine(take_any _ _ (by omega) (by omega)).mono ?_;rintro e w' ⟨rfl,rfl⟩;go_wp2_with fail
    refine(take_any _ _ (by omega) (by omega)).mono ?_;rintro e w' ⟨rfl,rfl⟩;go_wp2_with fail
    refine(DONE.out _ _ _ _ _ R5.out.1 R5.out.2.2).mono ?_;rintro e w6 ⟨X6,rfl,C6,f6,s6,_⟩;have c11:=C6.c11;have z11:=C6.fz 11;have R6:=hide (FIN.out _ _ _ _ R5.out.1 R5.out.2.1 R5.out.2.2 C6 f6 s6);clear C6 f6 s6;go_wp2_with fail
    go_roundw
    case rel=>exact R6.out
    case measure=>simp[intOf];omega
   ·by_cases hl2:k+1+1=L
    ·have hM:(L:Int)-2=(k:Int):=by omega
     have hkb:k<=200:=by omega
     have MM:=hide (hmany.out (by simpa using hob) hl2);clear hl2;go_wp2_with fail
     refine(MM.out X4 _ R4.out.1 R4.out.2.2.2.2).mono ?_;rw[HW2.out];rintro e w5 ⟨X5,rfl,C5,f5,s5⟩;have R5:=hide (And.intro C5 (And.intro f5 s5));clear C5 f5 s5;go_wp2_with fail
     refine(take_any _ _ (by omega) (by omega)).mono ?_;rintro e w' ⟨rfl,rfl⟩;go_wp2_with fail
     refine(take_any _ _ (by omega) (by omega)).mono ?_;rintro e w' ⟨rfl,rfl⟩;go_wp2_with fail
     refine(DONE.out _ _ _ _ _ R5.out.1 R5.out.2.2).mono ?_;rintro e w6 ⟨X6,rfl,C6,f6,s6,_⟩;have c11:=C6.c11;have z11:=C6.fz 11;have R6:=hide (FIN.out _ _ _ _ R5.out.1 R5.out.2.1 R5.out.2.2 C6 f6 s6);clear C6 f6 s6;go_wp2_with fail
     go_roundw
     case rel=>exact R6.out
     case measure=>simp[intOf];omega
    ·obtain⟨m,hM⟩:∃ m:Nat,(L:Int)-2=(m:Int):=⟨L-2,by omega⟩;have hmb:m<=200:=by omega
     have hne:((k:Int)==(m:Int))=false:=by simp;omega
     go_wp2_with fail
     refine(HJ2.out X4 _ R4.out.1 R4.out.2.2.2.2).mono ?_;rw[HW2.out];rintro e w5 ⟨X5,rfl,C5,f5,s5⟩;have R5:=hide (And.intro C5 (And.intro f5 s5));clear C5 f5 s5;go_wp2_with fail
     refine(take_any _ _ (by omega) (by omega)).mono ?_;rintro e w' ⟨rfl,rfl⟩;go_wp2_with fail
     refine(take_any _ _ (by omega) (by omega)).mono ?_;rintro e w' ⟨rfl,rfl⟩;go_wp2_with fail
     refine(DONE.out _ _ _ _ _ R5.out.1 R5.out.2.2).mono ?_;rintro e w6 ⟨X6,rfl,C6,f6,s6,_⟩;have c11:=C6.c11;have z11:=C6.fz 11;have R6:=hide (FIN.out _ _ _ _ R5.out.1 R5.out.2.1 R5.out.2.2 C6 f6 s6);clear C6 f6 s6;go_wp2_with fail
     go_roundw
     case rel=>exact R6.out
     case measure=>simp[intOf];omega
  ·obtain rfl:k=L:=by omega
   rw[<-HL.out,sumTo_len]at s3;have R3:=hide (And.intro C3 (And.intro f3 s3));have hL2:Hid (k<=200):=h200;clear C3 f3 s3 N4;go_wp2_with fail
   go_end0
   exact⟨X3,rfl,R3.out.1,R3.out.2.1,R3.out.2.2.le (by have:=HL.out;omega)⟩
end Go.Proofs.YtomcjennjcpdnaaGreatDoor
namespace Go.Proofs.YtomcjennjcpdnaaGreatDoor
set_option maxRecDepth 100000
set_option maxHeartbeats 4000000
open Go.RowKit
attribute [local go_sem] run_store_float
theorem one_29 {F:CF}{l:List FnD}{f:Nat}{S:Nat->Prop}(U:UOk F l f S)(T:TreeOk (fnD l f).nodes)(i:Nat)(hi:i<(fnD l f).nodes.length)(hk:(nd (fnD l f).nodes i).kind=29)(hl:(nd (fnD l f).nodes i).kids.length=2)(IH:∀ k,k<i->OneOk F (fnD l f).nodes k):OneOk F (fnD l f).nodes i:=by
 intro X w h B;obtain⟨k0,k1,hlk,hq0,hq1,hW⟩:=kids_two T hi hl;have I0:=hide (IH k0 hq0);have I1:=hide (IH k1 hq1);have HU:=hide U;have H:=hide h;have HB:=hide B;have HW:=hide hW;have hn:=node_any U X i w h hi;clear h B U hW T IH;generalize nd (fnD l f).nodes i=n at *;have t0:=HB.out.t0;have t1:X.top<=2000000:=by have:=HB.out.t1;omega
 go_enter Tryz.func89,Tryz.ntmps89;go_wp2_with fail
 refine hn.mono ?_;rintro e w1 ⟨a1,c1,a2,c2,rfl,r1,r2,r3,b1⟩;have C1:=H.out.below b1;have c11:=C1.c11;have hcl:=C1.cbl;obtain⟨b2,o2,rfl⟩:=r2.some_of (by omega);have r1':=r1.keep b1 (fun b hb=>(HU.out.far H.out b hb).1);have r2':=r2.keep b1 (fun b hb=>(HU.out.far H.out b hb).1);have kc:=r2'.cellAt (j:=0) (by omega);have hb2:b2<w1.heap.size:=World.block_lt_of_cell? _ _ kc;simp only[hlk,List.getElem?_cons_zero,Option.getD_some,Nat.add_zero]at kc;have N1:=hide (NBox.new (p1:=c1) (p2:=c2) hk rfl hl HU.out C1 r1' r2');have F1:Hid (Fr X.O X.O w w1):=.of_below b1;have HC1:=hide C1;unfold nodeV;rw[hl];rw[hl]at r3;clear C1 hn r1 r2 b1 r1' r2';have HN1:=N1.out;have r1:=hide HN1.refs;have r2:=hide HN1.kids;clear HN1 N1 kc;go_wp2_with fail
 refine(short_any HU.out X n 29 a1 c1 b2 o2 c2 k0 k1 _ (HC1.out.alloc _) hk hlk r1.out r2.out I0.out I1.out ⟨t0,by have:=HB.out.t1;have:=HW.out;omega,by have:=HB.out.m1;have:=HW.out;omega,by have:=HB.out.n1;have:=HW.out;omega,HB.out.nk⟩).mono ?_;rintro e w2 ⟨X2,rfl,C2,f2,s2⟩;clear c11;have c11:=C2.c11;have z11:=C2.fz 11;have R9:=hide (And.intro C2 (And.intro ((F1.out.alloc _).trans f2) (s2)));go_wp2_with fail
 go_ret;exact CPost.fin R9.out.1 R9.out.2.1 R9.out.2.2 (by have:=HW.out;omega)
theorem one_30 {F:CF}{l:List FnD}{f:Nat}{S:Nat->Prop}(U:UOk F l f S)(T:TreeOk (fnD l f).nodes)(i:Nat)(hi:i<(fnD l f).nodes.length)(hk:(nd (fnD l f).nodes i).kind=30)(hl:(nd (fnD l f).nodes i).kids.length=2)(IH:∀ k,k<i->OneOk F (fnD l f).nodes k):OneOk F (fnD l f).nodes i:=by
 intro X w h B;obtain⟨k0,k1,hlk,hq0,hq1,hW⟩:=kids_two T hi hl;have I0:=hide (IH k0 hq0);have I1:=hide (IH k1 hq1);have HU:=hide U;have H:=hide h;have HB:=hide B;have HW:=hide hW;have hn:=node_any U X i w h hi;clear h B U hW T IH;generalize nd (fnD l f).nodes i=n at *;have t0:=HB.out.t0;have t1:X.top<=2000000:=by have:=HB.out.t1;omega
 go_enter Tryz.func89,Tryz.ntmps89;go_wp2_with fail
 refine hn.mono ?_;rintro e w1 ⟨a1,c1,a2,c2,rfl,r1,r2,r3,b1⟩;have C1:=H.out.below b1;have c11:=C1.c11;have hcl:=C1.cbl;obtain⟨b2,o2,rfl⟩:=r2.some_of (by omega);have r1':=r1.keep b1 (fun b hb=>(HU.out.far H.out b hb).1);have r2':=r2.keep b1 (fun b hb=>(HU.out.far H.out b hb).1);have kc:=r2'.cellAt (j:=0) (by omega);have hb2:b2<w1.heap.size:=World.block_lt_of_cell? _ _ kc;simp only[hlk,List.getElem?_cons_zero,Option.getD_some,Nat.add_zero]at kc;have N1:=hide (NBox.new (p1:=c1) (p2:=c2) hk rfl hl HU.out C1 r1' r2');have F1:Hid (Fr X.O X.O w w1):=.of_below b1;have HC1:=hide C1;unfold nodeV;rw[hl];rw[hl]at r3;clear C1 hn r1 r2 b1 r1' r2';have HN1:=N1.out;have r1:=hide HN1.refs;have r2:=hide HN1.kids;clear HN1 N1 kc;go_wp2_with fail
 refine(short_any HU.out X n 30 a1 c1 b2 o2 c2 k0 k1 _ (HC1.out.alloc _) hk hlk r1.out r2.out I0.out I1.out ⟨t0,by have:=HB.out.t1;have:=HW.out;omega,by have:=HB.out.m1;have:=HW.out;omega,by have:=HB.out.n1;have:=HW.out;omega,HB.out.nk⟩).mono ?_;rintro e w2 ⟨X2,rfl,C2,f2,s2⟩;clear c11;have c11:=C2.c11;have z11:=C2.fz 11;have R9:=hide (And.intro C2 (And.intro ((F1.out.alloc _).trans f2) (s2)));go_wp2_with fail
 go_ret;exact CPost.fin R9.out.1 R9.out.2.1 R9.out.2.2 (by have:=HW.out;omega)
theorem kids_all {ns:List NodeD}(T:TreeOk ns){i:Nat}(hi:i<ns.length):(∀ k∈(nd ns i).kids,0<=k/\k.toNat<i)/\(nd ns i).kids.length<=200/\Wt ns i=4+(nd ns i).refs.length+sumAll (wk ns) (nd ns i).kids:=
 ⟨fun k hk=>kids_lt T hi hk,T.nkid i hi,Wt_eq T hi⟩
theorem one_35 {F:CF}{l:List FnD}{f:Nat}{S:Nat->Prop}(U:UOk F l f S)(T:TreeOk (fnD l f).nodes)(i:Nat)(hi:i<(fnD l f).nodes.length)(hk:(nd (fnD l f).nodes i).kind=35)(hev:(nd (fnD l f).nodes i).kids.length % 2=0)(hop:(nd (fnD l f).nodes i).op=1->2<=(nd (fnD l f).nodes i).kids.length/\isMany (nd (fnD l f).nodes ((nd (fnD l f).nodes i).kids[(nd (fnD l f).nodes i).kids.length-1]?.getD 0).toNat).kind=true)(IH:∀ k,k<i->OneOk F (fnD l f).nodes k)(IM:∀ k,k<i->isMany (nd (fnD l f).nodes k).kind=true->ManyOk F (fnD l f).nodes k):OneOk F (fnD l f).nodes i:=by
 intro X w h B;obtain⟨hks,h200,hW⟩:=kids_all T hi;have KS:=hide (fun k hk=>(hks k hk).1);have IK:=hide (fun k hk=>IH k.toNat (hks k hk).2);have hop:=hide (show(nd (fnD l f).nodes i).op=1->2<=(nd (fnD l f).nodes i).kids.length/\ManyOk F (fnD l f).nodes ((nd (fnD l f).nodes i).kids[(nd (fnD l f).nodes i).kids.length-1]?.getD 0).toNat from fun h1=>by
  obtain⟨h2,h3⟩:=hop h1;refine⟨h2,IM _ ?_ h3⟩;have hlt:(nd (fnD l f).nodes i).kids.length-1<(nd (fnD l f).nodes i).kids.length:=by omega
  exact(hks _ (by rw[List.getElem?_eq_getElem hlt];exact List.getElem_mem _)).2)
 have hev:=hide hev;clear IM hks;have HU:=hide U;have H:=hide h;have HB:=hide B;have HW:=hide hW;have hn:=node_any U X i w h hi;clear h B U hW T IH;generalize nd (fnD l f).nodes i=n at *;have t0:=HB.out.t0;have t1:X.top<=2000000:=by have:=HB.out.t1;omega
 go_enter Tryz.func89,Tryz.ntmps89;go_wp2_with fail
 refine hn.mono ?_;rintro e w1 ⟨a1,c1,a2,c2,rfl,r1,r2,r3,b1⟩;have C1:=H.out.below b1;have c11:=C1.c11;have hcl:=C1.cbl;have r1':=r1.keep b1 (fun b hb=>(HU.out.far H.out b hb).1);have r2':=r2.keep b1 (fun b hb=>(HU.out.far H.out b hb).1);have N1:=hide (NBox.new (p1:=c1) (p2:=c2) hk rfl rfl HU.out C1 r1' r2');have F1:Hid (Fr X.O X.O w w1):=.of_below b1;have HC1:=hide C1;unfold nodeV;clear C1 hn r1 r2 b1 r1' r2';have HN1:=N1.out;have r1:=hide HN1.refs;have r2:=hide HN1.kids;clear HN1 N1;go_wp2_with fail
 refine(literal_any HU.out X n a1 a2 c1 c2 _ (HC1.out.alloc _) hk r1.out r2.out hev.out h200 hop.out KS.out IK.out ⟨t0,by have:=HB.out.t1;have:=HW.out;omega,by have:=HB.out.m1;have:=HW.out;omega,by have:=HB.out.n1;have:=HW.out;omega,HB.out.nk⟩).mono ?_;rintro e w2 ⟨X2,rfl,C2,f2,s2⟩;clear c11;have c11:=C2.c11;have z11:=C2.fz 11;have R9:=hide (And.intro C2 (And.intro ((F1.out.alloc _).trans f2) (s2)));go_wp2_with fail
 go_ret;exact CPost.fin R9.out.1 R9.out.2.1 R9.out.2.2 (by have:=HW.out;omega)
theorem many_34 {F:CF}{l:List FnD}{f:Nat}{S:Nat->Prop}(U:UOk F l f S)(T:TreeOk (fnD l f).nodes)(i:Nat)(hi:i<(fnD l f).nodes.length)(hk:(nd (fnD l f).nodes i).kind=34)(hl1:1<=(nd (fnD l f).nodes i).kids.length)(IH:∀ k,k<i->OneOk F (fnD l f).nodes k)(IM:∀ k,k<i->isMany (nd (fnD l f).nodes k).kind=true->ManyOk F (fnD l f).nodes k):ManyOkS F (fnD l f).nodes i:=by
 intro X w h B;obtain⟨hks,h200,hW⟩:=kids_all T hi;obtain⟨x,ks,hlk⟩:∃ x ks,(nd (fnD l f).nodes i).kids=x::ks:=by
  match e:(nd (fnD l f).nodes i).kids,hl1 with
  | x::ks,_=>exact⟨x,ks,rfl⟩
 have hx:=hks x (by rw[hlk];exact List.mem_cons_self ..);obtain⟨k0,rfl⟩:=Int.eq_ofNat_of_zero_le hx.1;have hks':∀ k∈ks,0<=k/\k.toNat<i:=fun k hk=>hks k (by rw[hlk];exact List.mem_cons_of_mem _ hk);have I0:=hide (IH k0 hx.2);have I1:=hide (fun k hk=>IH k.toNat (hks' k hk).2);have I2:Hid (LastMany F (fnD l f).nodes ks):=fun k hk hm=>IM k.toNat (hks' k hk).2 hm;have I3:Hid (∀ k∈ks,0<=k/\k.toNat<(fnD l f).nodes.length):=fun k hk=>⟨(hks' k hk).1,by have:=(hks' k hk).2;omega⟩;have hl:(nd (fnD l f).nodes i).kids.length=ks.length+1:=by rw[hlk];rfl
 rw[hl]at h200;rw[hlk]at hW;simp only[sumAll,List.map_cons,List.sum_cons,wk,Int.toNat_natCast]at hW;have hW:Wt (fnD l f).nodes i=4+(nd (fnD l f).nodes i).refs.length+(Wt (fnD l f).nodes k0+sumAll (wk (fnD l f).nodes) ks):=hW;clear IM hks hks' hx hl1;have HU:=hide U;have H:=hide h;have HB:=hide B;have HW:=hide hW;have hn:=node_any U X i w h hi;clear h B U hW T IH;generalize nd (fnD l f).nodes i=n at *;have t0:=HB.out.t0;have t1:X.top<=2000000:=by have:=HB.out.t1;omega
 go_enter Tryz.func81,Tryz.ntmps81;go_wp2_with fail
 refine hn.mono ?_;rintro e w1 ⟨a1,c1,a2,c2,rfl,r1,r2,r3,b1⟩;have C1:=H.out.below b1;have c11:=C1.c11;have hcl:=C1.cbl;obtain⟨b2,o2,rfl⟩:=r2.some_of (by omega);have r1':=r1.keep b1 (fun b hb=>(HU.out.far H.out b hb).1);have r2':=r2.keep b1 (fun b hb=>(HU.out.far H.out b hb).1);have kc:=r2'.cellAt (j:=0) (by omega);have hb2:b2<w1.heap.size:=World.block_lt_of_cell? _ _ kc;simp only[hlk,List.getElem?_cons_zero,Option.getD_some,Nat.add_zero]at kc;obtain⟨L,hL⟩:∃ L,ks.length=L:=⟨_,rfl⟩;rw[hL]at hl h200;have HL:=hide hL;clear hL;have N1:=hide (NBox.new (p1:=c1) (p2:=c2) hk rfl hl HU.out C1 r1' r2');have F1:Hid (Fr X.O X.O w w1):=.of_below b1;have HC1:=hide C1;unfold nodeV;rw[hl];rw[hl]at r3;clear C1 hn r1 r2 b1 r1' r2';go_wp2_with fail
 refine(I0.out X _ (HC1.out.alloc _) ⟨t0,by have:=HB.out.t1;have:=HW.out;omega,by have:=HB.out.m1;have:=HW.out;omega,by have:=HB.out.n1;have:=HW.out;omega,HB.out.nk⟩).mono ?_;rintro e w2 ⟨X2,rfl,C2,f2,s2⟩;have N2:=NBox.step N1.out HU.out (HC1.out.alloc _) f2;have n7:=N2.c7;rw[hl]at n7;have I7:=hide N2.kids;have R2:=hide (And.intro C2 (And.intro ((F1.out.alloc _).trans f2) s2));clear N2 N1 C2 f2 s2 kc c11 hcl;have B2:Hid (Bud X2 (sumAll (wk (fnD l f).nodes) ks+2)):=HB.out.next R2.out.2.2 (c1:=Wt (fnD l f).nodes k0+1) (c2:=sumAll (wk (fnD l f).nodes) ks+2) (by omega) (by have:=HW.out;omega) (by omega) (by omega);have IA:Hid (IntsAt w2 S (some ⟨b2,o2+1,none⟩) ks):=by
  show IntsAt _ _ _ _;refine⟨by have:=HL.out;omega,fun h0=>?_⟩;obtain⟨b',o',e,hb',hc'⟩:=I7.out.2 (by have:=HL.out;omega);cases e;refine⟨b2,o2+1,rfl,hb',fun j hj=>?_⟩;have:=hc' (j+1) (by have:=HL.out;omega);rw[hlk,List.getElem?_cons_succ]at this;rw[show o2+1+j=o2+(j+1)by omega];exact this
 have IB:Hid (L=0->IntsAt w2 S (some ⟨b2,o2,none⟩) ks):=fun h0=>⟨by have:=HL.out;omega,fun h1=>by have:=HL.out;omega⟩;have LA:Hid (∀ a c,IntsAt w2 S a ks->Calls Tryz.prog 87 #[.pointer (some ⟨F.cb,0,none⟩),.slice a L c] w2 (CPost F X2 w2 (.int .i64 X2.top) (X2.top+1) X2.home (2000000 * sumAll (wk (fnD l f).nodes) ks+201))):=fun a c ha=>by
  have hh:=list_any HU.out X2 a ks c w2 R2.out.1 ha B2.out (by have:=HL.out;omega) I3.out I1.out I2.out;rw[HL.out]at hh;exact hh
 by_cases hc2:1<c2
 ·have hc3:0<c2-1:=by omega
  go_wp2_with fail
  refine(LA.out _ _ IA.out).mono ?_;rintro e w3 ⟨X3,rfl,C3,f3,s3⟩;rw[R2.out.2.2.home]at s3;have R3:=hide (And.intro C3 (And.intro (R2.out.2.1.trans f3) (R2.out.2.2.trans s3)));clear C3 f3 s3;go_wp2_with fail
  refine(take_any _ _ (by omega) (by omega)).mono ?_;rintro e w' ⟨rfl,rfl⟩;go_wp2_with fail
  refine(take_any _ _ (by omega) (by omega)).mono ?_;rintro e w' ⟨rfl,rfl⟩;go_wp2_with fail
  refine(put_c F X3 _ _ _ _ _ _ R3.out.1 (by have:=R3.out.2.2.n2;have:=HB.out.n1;have:=HW.out;omega) R3.out.2.2.nk).mono ?_;rintro e w4 ⟨X4,rfl,C4,f4,s4,_⟩;rw[R3.out.2.2.home]at s4;have c11:=C4.c11;have z11:=C4.fz 11;have R9:=hide (And.intro C4 (And.intro (R3.out.2.1.trans f4) (R3.out.2.2.trans s4)));go_wp2_with fail
  go_ret;exact CPost.fin R9.out.1 R9.out.2.1 R9.out.2.2 (by have:=HW.out;omega)
 ·obtain rfl:c2=1:=by omega
  obtain rfl:L=0:=by omega
  go_wp2_with fail
  refine(LA.out _ _ (IB.out (by trivial))).mono ?_;rintro e w3 ⟨X3,rfl,C3,f3,s3⟩;rw[R2.out.2.2.home]at s3;have R3:=hide (And.intro C3 (And.intro (R2.out.2.1.trans f3) (R2.out.2.2.trans s3)));clear C3 f3 s3;go_wp2_with fail
  refine(take_any _ _ (by omega) (by omega)).mono ?_;rintro e w' ⟨rfl,rfl⟩;go_wp2_with fail
  refine(take_any _ _ (by omega) (by omega)).mono ?_;rintro e w' ⟨rfl,rfl⟩;go_wp2_with fail
  refine(put_c F X3 _ _ _ _ _ _ R3.out.1 (by have:=R3.out.2.2.n2;have:=HB.out.n1;have:=HW.out;omega) R3.out.2.2.nk).mono ?_;rintro e w4 ⟨X4,rfl,C4,f4,s4,_⟩;rw[R3.out.2.2.home]at s4;have c11:=C4.c11;have z11:=C4.fz 11;have R9:=hide (And.intro C4 (And.intro (R3.out.2.1.trans f4) (R3.out.2.2.trans s4)));go_wp2_with fail
  go_ret;exact CPost.fin R9.out.1 R9.out.2.1 R9.out.2.2 (by have:=HW.out;omega)
end Go.Proofs.YtomcjennjcpdnaaGreatDoor

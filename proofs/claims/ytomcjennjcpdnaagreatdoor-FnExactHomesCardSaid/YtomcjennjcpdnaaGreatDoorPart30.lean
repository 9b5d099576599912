import Derived.Test.YtomcjennjcpdnaaGreatDoorPart26
import Derived.KernelRfl
set_option linter.unusedSimpArgs false
set_option linter.unusedVariables false
set_option maxHeartbeats 8000000
namespace Go.Proofs.YtomcjennjcpdnaaGreatDoor
set_option maxRecDepth 100000
set_option maxHeartbeats 4000000
open Go.RowKit
attribute [local go_sem] run_store_float
theorem field_kind (v1 v2 v3 v4 v5 v6 v7:Value)(k:Int)(w:World):(Instr.field 97 (.agg #[.int .i64 k,v1,v2,v3,v4,v5,v6,v7]) 0).run Tryz.prog w=.ok (.int .i64 k) w:=by kernel_rfl
attribute [local go_sem] field_kind
theorem l3many_c (k:Int)(w:World):Calls Tryz.prog 107 #[.int .i64 k] w fun e w'=>e=.returned (.bool (isMany k))/\w'=w:=by
 unfold isMany;cases h1:k==34<;>cases h2:k==37
 all_goals
  go_enter Tryz.func107,Tryz.ntmps107;go_wp2_with fail
  go_ret;exact⟨rfl,rfl⟩
def LastMany (F:CF)(ns:List NodeD)(ks:List Int):Prop:=∀ k∈ks,isMany (nd ns k.toNat).kind=true->ManyOk F ns k.toNat
theorem list_any {F:CF}{l:List FnD}{f:Nat}{S:Nat->Prop}(U:UOk F l f S)(X:CX)(a:Option Addr)(ks:List Int)(c:Nat)(w:World)(h:CC F X w)(hs:IntsAt w S a ks)(B:Bud X (sumAll (wk (fnD l f).nodes) ks+2))(h200:ks.length<=200)
  (hn:∀ k∈ks,0<=k/\k.toNat<(fnD l f).nodes.length)(I1:∀ k∈ks,OneOk F (fnD l f).nodes k.toNat)(I2:LastMany F (fnD l f).nodes ks) :
  Calls Tryz.prog 87 #[.pointer (some ⟨F.cb,0,none⟩),.slice a ks.length c] w (CPost F X w (.int .i64 X.top) (X.top+1) X.home (2000000 * sumAll (wk (fnD l f).nodes) ks+201)):=by
 have t0:=B.t0;have t1:X.top<=2000000:=by have:=B.t1;omega
 have HU:=hide U;have H:=hide h;have HB:=hide B;have HS:=hide hs;have HNK:=hide hn;have HI1:=hide I1;have HI2:=hide I2;have hwr:=wrap_up t0 t1;have hnk:=B.nk;clear h B hs hn I1 I2 U;obtain⟨L,hL⟩:∃ L,ks.length=L:=⟨_,rfl⟩;rw[hL];rw[hL]at h200;have HL:=hide hL;clear hL;go_enter Tryz.func87,Tryz.ntmps87;go_wp2_with fail
 refine(push_c F X _ H.out t0 (by omega) hnk).mono ?_;rintro e w1 ⟨X1,rfl,C1,f1,s1⟩;have R1:=hide (And.intro C1 (And.intro f1 s1));clear C1 f1 s1;go_wp2_with fail
 refine(put_c F X1 _ _ _ _ _ _ R1.out.1 (by have:=R1.out.2.2.n2;have:=HB.out.n1;omega) R1.out.2.2.nk).mono ?_;rintro e w2 ⟨X2,rfl,C2,f2,s2,_⟩;rw[R1.out.2.2.top,R1.out.2.2.home]at s2;have R2:=hide (And.intro C2 (And.intro (R1.out.2.1.trans f2) (R1.out.2.2.trans s2)));clear C2 f2 s2 R1;go_wp2_with fail
 go_loopw [15] (fun q wr=>∃(k:Nat) (X3:CX),k<=L/\q=.int .i64 k/\CC F X3 wr/\Fr X.O X3.O w wr/\St X X3 (X.top+1) X.home (2000000 * sumTo (wk (fnD l f).nodes) ks k+k+1)) (fun q _=>L-(intOf q).toNat)
 case atStart=>exact⟨0,X2,Nat.zero_le _,rfl,R2.out.1,R2.out.2.1,R2.out.2.2.le (by omega)⟩
 case round=>
  obtain⟨k,X3,hk,rfl,C3,f3,s3⟩:=hrel;by_cases hlt:k<L
  ·have hlt':k<ks.length:=by rw[HL.out];exact hlt
   obtain⟨b,o,rfl⟩:=HS.out.some_of (by omega);have kc:=(HS.out.fr f3 (HU.out.far H.out)).cellAt hlt';have hmem:ks[k]?.getD 0∈ks:=by rw[List.getElem?_eq_getElem hlt'];exact List.getElem_mem _
   obtain⟨x,hx⟩:=Int.eq_ofNat_of_zero_le (HNK.out _ hmem).1;have hxl:=(HNK.out _ hmem).2;have hsm:=sumTo_succ (wk (fnD l f).nodes) ks k 0 hlt';have hsl:=sumTo_le (wk (fnD l f).nodes) ks (k+1);have J1:=HI1.out _ hmem;have J2:=HI2.out _ hmem;rw[hx]at kc hxl hsm J1 J2;simp only[wk,Int.toNat_natCast]at hsm J1 J2 hxl;have B3:Bud X3 (Wt (fnD l f).nodes x):=⟨by rw[s3.top];omega,by rw[s3.top];have:=HB.out.t1;omega,by rw[s3.ms];have:=HB.out.m1;omega,by have:=s3.n2;have:=HB.out.n1;omega,s3.nk⟩;have hnd:=hide (node_any HU.out X3 x wr C3 hxl);have J3:Hid (∀ W,CC F X3 W->Calls Tryz.prog 89 #[.pointer (some ⟨F.cb,0,none⟩),.int .i64 x] W (CPost F X3 W (.int .i64 X3.top) (X3.top+1) X3.home (2000000 * Wt (fnD l f).nodes x))):=fun W hW=>J1 X3 W hW B3;have J4:Hid (isMany (nd (fnD l f).nodes x).kind=true->∀ W,CC F X3 W->Calls Tryz.prog 81 #[.pointer (some ⟨F.cb,0,none⟩),.int .i64 x] W (CPost F X3 W (.int .i64 X3.top) (X3.top+1) X3.home (2000000 * Wt (fnD l f).nodes x))):=fun hm W hW=>J2 hm X3 W hW B3;have R3:=hide (And.intro C3 (And.intro f3 (And.intro s3 (And.intro hsm hsl))));clear C3 f3 s3 B3 hsm hsl J1 J2 hx hmem hlt';generalize hW:Wt (fnD l f).nodes x=W at *;have FIN:Hid (∀(w5 w6:World) (X4 X5:CX),CC F X4 w5->Fr X.O X4.O w w5->St X3 X4 (X3.top+1) X3.home (2000000 * W)->CC F X5 w6->Fr X4.O X5.O w5 w6->St X4 X5 X4.top X4.home 1 ->
     ∃(k_1:Nat) (X3:CX),k_1<=L/\(Value.int .i64 ((k:Int)+1))=.int .i64 k_1/\CC F X3 (w6.setCell ⟨F.cb,11,none⟩ (.int .i64 (X.top+1)))/\Fr X.O X3.O w (w6.setCell ⟨F.cb,11,none⟩ (.int .i64 (X.top+1)))/\St X X3 (X.top+1) X.home (2000000 * sumTo (wk (fnD l f).nodes) ks k_1+k_1+1)):=fun w5 w6 X4 X5 C4 f4 s4 C5 f5 s5=>by
    obtain⟨_,_,s3,hsm,_⟩:=R3.out;exact⟨k+1,_,hlt,by push_cast;rfl,C5.top _,(f4.trans f5).set (a:=⟨F.cb,11,none⟩) C5.ocb _,rfl,by show X5.home=_;rw[s5.home,s4.home,s3.home],by show X5.ms=_;rw[s5.ms,s4.ms,s3.ms],by have:=s3.n1;have:=s4.n1;have:=s5.n1;simp only;omega,by have:=s3.n2;have:=s4.n2;have:=s5.n2;simp only;omega,s5.nk⟩
   have BN:Hid (∀ X4,St X3 X4 (X3.top+1) X3.home (2000000 * W)->X4.n<2400000000000):=fun X4 s4=>by
    obtain⟨_,_,s3,hsm,hsl⟩:=R3.out;have:=s3.n2;have:=s4.n2;have:=HB.out.n1;omega
   by_cases hlast:L=k+1
   ·have hM:(L:Int)-1=(k:Int):=by omega
    have hkb:k<=200:=by omega
    clear hlast;cases hm:isMany (nd (fnD l f).nodes x).kind
    ·go_wp2_with fail
     refine hnd.out.mono ?_;rintro e w4 ⟨a1,c1,a2,c2,rfl,_,_,_,b4⟩;unfold nodeV;have HB4:=hide b4;clear b4;go_wp2_with fail
     refine(l3many_c _ _).mono ?_;rintro e w' ⟨rfl,rfl⟩;rw[hm];go_wp2_with fail
     refine(J3.out _ (R3.out.1.below HB4.out)).mono ?_;rintro e w5 ⟨X4,rfl,C4,f4,s4⟩;have R4:=hide (And.intro C4 (And.intro ((R3.out.2.1.trans (.of_below HB4.out)).trans f4) s4));clear C4 f4 s4;go_wp2_with fail
     refine(take_any _ _ (by omega) (by omega)).mono ?_;rintro e w' ⟨rfl,rfl⟩;go_wp2_with fail
     refine(put_c F X4 _ _ _ _ _ _ R4.out.1 (BN.out _ R4.out.2.2) R4.out.2.2.nk).mono ?_;rintro e w6 ⟨X5,rfl,C5,f5,s5,_⟩;have c11:=C5.c11;have z11:=C5.fz 11;have R5:=hide (FIN.out _ _ _ _ R4.out.1 R4.out.2.1 R4.out.2.2 C5 f5 s5);clear C5 f5 s5;go_wp2_with fail
     go_roundw
     case rel=>exact R5.out
     case measure=>simp[intOf];omega
    ·go_wp2_with fail
     refine hnd.out.mono ?_;rintro e w4 ⟨a1,c1,a2,c2,rfl,_,_,_,b4⟩;unfold nodeV;have HB4:=hide b4;clear b4;go_wp2_with fail
     refine(l3many_c _ _).mono ?_;rintro e w' ⟨rfl,rfl⟩;rw[hm];go_wp2_with fail
     refine(J4.out hm _ (R3.out.1.below HB4.out)).mono ?_;rintro e w5 ⟨X4,rfl,C4,f4,s4⟩;have R4:=hide (And.intro C4 (And.intro ((R3.out.2.1.trans (.of_below HB4.out)).trans f4) s4));clear C4 f4 s4;go_wp2_with fail
     refine(take_any _ _ (by omega) (by omega)).mono ?_;rintro e w' ⟨rfl,rfl⟩;go_wp2_with fail
     refine(put_c F X4 _ _ _ _ _ _ R4.out.1 (BN.out _ R4.out.2.2) R4.out.2.2.nk).mono ?_;rintro e w6 ⟨X5,rfl,C5,f5,s5,_⟩;have c11:=C5.c11;have z11:=C5.fz 11;have R5:=hide (FIN.out _ _ _ _ R4.out.1 R4.out.2.1 R4.out.2.2 C5 f5 s5);clear C5 f5 s5;go_wp2_with fail
     go_roundw
     case rel=>exact R5.out
     case measure=>simp[intOf];omega
   ·obtain⟨m,hM⟩:∃ m:Nat,(L:Int)-1=(m:Int):=⟨L-1,by omega⟩;have hmb:m<=200:=by omega
    have hne:((k:Int)==(m:Int))=false:=by simp;omega
    go_wp2_with fail
    refine(J3.out _ R3.out.1).mono ?_;rintro e w5 ⟨X4,rfl,C4,f4,s4⟩;have R4:=hide (And.intro C4 (And.intro (R3.out.2.1.trans f4) s4));clear C4 f4 s4;go_wp2_with fail
    refine(take_any _ _ (by omega) (by omega)).mono ?_;rintro e w' ⟨rfl,rfl⟩;go_wp2_with fail
    refine(put_c F X4 _ _ _ _ _ _ R4.out.1 (BN.out _ R4.out.2.2) R4.out.2.2.nk).mono ?_;rintro e w6 ⟨X5,rfl,C5,f5,s5,_⟩;have c11:=C5.c11;have z11:=C5.fz 11;have R5:=hide (FIN.out _ _ _ _ R4.out.1 R4.out.2.1 R4.out.2.2 C5 f5 s5);clear C5 f5 s5;go_wp2_with fail
    go_roundw
    case rel=>exact R5.out
    case measure=>simp[intOf];omega
  ·obtain rfl:k=L:=by omega
   rw[<-HL.out,sumTo_len]at s3;have hL2:Hid (k<=200):=h200;have R3:=hide (And.intro C3 (And.intro f3 s3));clear C3 f3 s3;go_wp2_with fail
   go_ret;exact⟨X3,rfl,R3.out.1,R3.out.2.1,R3.out.2.2.le (by have:=HL.out;omega)⟩
end Go.Proofs.YtomcjennjcpdnaaGreatDoor
namespace Go.Proofs.YtomcjennjcpdnaaGreatDoor
set_option maxRecDepth 100000
set_option maxHeartbeats 4000000
open Go.RowKit
attribute [local go_sem] run_store_float
theorem CC.aim {F:CF}{X:CX}{w:World}(h:CC F X w){j q:Nat}(hj:j<X.n)(hq:q<5):∃ g c,w.cell? ⟨F.cb,9,none⟩=some (.slice (some ⟨g,0,none⟩) X.n c)/\(∃ v,w.cell? ⟨g,j * 5+q,none⟩=some v)/\w.frozen? ⟨g,j * 5+q,none⟩=false/\g≠F.cb/\X.n<=9223372036854775807 /\
  ∀ u,CC F { X with is:=fun i=>if i=j * 5+q then u else X.is i } (w.setCell ⟨g,j * 5+q,none⟩ u)/\Fr X.O X.O w (w.setCell ⟨g,j * 5+q,none⟩ u):=by
 obtain⟨g,cap,e9,_,_,h6,hgc,hgz⟩:=h.ins.at (by omega);have c9:=h.c9;rw[e9]at c9;obtain⟨_,_,e,_,hm⟩:=h.ins.form;exact⟨g,cap,c9,⟨_,hgc (j * 5+q) (by omega)⟩,hgz _,fun e=>by have:=h.dis.i1 g (by rw[e9];rfl);have:=h.ok.cb.2;omega,by unfold maxLen at hm;omega,fun u=>h.setI e9 u⟩
theorem St.setI {X X1:CX}{t:Int}{h:Nat->Int}{d:Nat}{is:Nat->Value}(s:St X X1 t h d):St X { X1 with is:=is } t h d:=⟨s.top,s.home,s.ms,s.n1,s.n2,s.nk⟩
theorem short_any {F:CF}{l:List FnD}{f:Nat}{S:Nat->Prop}(U:UOk F l f S)(X:CX)(n:NodeD)(kd:Int)(a1:Option Addr)(c1 b2 o2 c2 k0 k1:Nat)(w:World)(h:CC F X w)(ek:n.kind=kd)(hlk:n.kids=[(k0:Int),(k1:Int)])(r1:IntsAt w S a1 n.refs)(r2:IntsAt w S (some ⟨b2,o2,none⟩) n.kids)
  (I0:OneOk F (fnD l f).nodes k0)(I1:OneOk F (fnD l f).nodes k1)(B:Bud X (Wt (fnD l f).nodes k0+Wt (fnD l f).nodes k1+1)) :
  Calls Tryz.prog 118 #[.pointer (some ⟨F.cb,0,none⟩),.agg #[.int .i64 kd,.int .i64 n.line,.int .i64 n.op,.int .i64 n.num,.float .f64 n.flt,.string n.str,.slice a1 n.refs.length c1,.slice (some ⟨b2,o2,none⟩) 2 c2]] w (CPost F X w (.tuple #[]) (X.top+1) X.home (2000000 * (Wt (fnD l f).nodes k0+Wt (fnD l f).nodes k1)+2)):=by
 have t0:=B.t0;have t1:X.top<=2000000:=by have:=B.t1;omega
 have hl:n.kids.length=2:=by rw[hlk];rfl
 have kc:=r2.cellAt (j:=0) (by omega);have hb2:b2<w.heap.size:=World.block_lt_of_cell? _ _ kc;simp only[hlk,List.getElem?_cons_zero,Option.getD_some,Nat.add_zero]at kc;have N1:=hide (NBox.new (p1:=c1) (p2:=c2) ek rfl hl U h r1 r2);have HU:=hide U;have H:=hide h;have HB:=hide B;have I0:=hide I0;have I1:=hide I1;clear h B U r1 r2;generalize hw0:Wt (fnD l f).nodes k0=W0 at *;generalize hw1:Wt (fnD l f).nodes k1=W1 at *;have HW0:=hide hw0;have HW1:=hide hw1;clear hw0 hw1;go_enter Tryz.func118,Tryz.ntmps118;go_wp2_with fail
 refine(I0.out X _ (H.out.alloc _) ⟨t0,by have:=HB.out.t1;have:=HW0.out;omega,by have:=HB.out.m1;have:=HW0.out;omega,by have:=HB.out.n1;have:=HW0.out;omega,HB.out.nk⟩).mono ?_;rw[HW0.out];rintro e w2 ⟨X2,rfl,C2,f2,s2⟩;have N2:=NBox.step N1.out HU.out (H.out.alloc _) f2;have n0:=N2.c0;rw[ek]at n0;have HN2:=hide N2;have R2:=hide (And.intro C2 (And.intro ((Fr.refl.alloc _).trans f2) s2));clear N2 N1 C2 f2 s2 kc;have K:Hid (∀ op:Int,Calls Tryz.prog 30 #[.pointer (some ⟨F.cb,0,none⟩),.int .i64 op,.int .i64 X.top,.int .i64 0,.int .i64 0,.int .i64 0] w2 (PutC F X2 w2)):=fun op=>put_c F X2 _ _ _ _ _ _ R2.out.1 (by have:=R2.out.2.2.n2;have:=HB.out.n1;omega) R2.out.2.2.nk;cases hq:kd==30
 all_goals
  go_wp2_with fail
  refine(K.out _).mono ?_;rintro e w3 ⟨X3,rfl,C3,f3,s3,hj3⟩;rw[R2.out.2.2.home]at s3;have N3:=NBox.step HN2.out HU.out R2.out.1 f3;have HN3:=hide N3;have R3:=hide (And.intro C3 (And.intro (R2.out.2.1.trans f3) (And.intro (R2.out.2.2.trans s3) hj3)));clear N3 C3 f3 s3 hj3;go_wp2_with fail
  refine(put_c F X3 _ _ _ _ _ _ R3.out.1 (by have:=R3.out.2.2.1.n2;have:=HB.out.n1;omega) R3.out.2.2.1.nk).mono ?_;rintro e w4 ⟨X4,rfl,C4,f4,s4,hj4⟩;rw[R3.out.2.2.1.home]at s4;have N4:=NBox.step HN3.out HU.out R3.out.1 f4;have c11:=C4.c11;have z11:=C4.fz 11;have C5:=C4.top X.top;have n7:=N4.c7;rw[hl]at n7;have kc':=N4.kids.cellAt (j:=1) (by omega);simp only[hlk,List.getElem?_cons_succ,List.getElem?_cons_zero,Option.getD_some]at kc';have hnb:w.heap.size≠F.cb:=fun e=>N4.far (e ▸ C4.ocb);have hb2c:b2≠F.cb:=by
   intro e;obtain⟨b',o',e2,hb',_⟩:=N4.kids.2 (by omega);cases e2;exact(HU.out.far C4 _ hb').2 (e ▸ C4.ocb)
  have s5:=R3.out.2.2.1.trans s4;have R5:Hid (CC F { X4 with top:=X.top } (w4.setCell ⟨F.cb,11,none⟩ (.int .i64 X.top))/\Fr X.O X4.O w (w4.setCell ⟨F.cb,11,none⟩ (.int .i64 X.top))/\St X { X4 with top:=X.top } X.top X.home (2000000 * W0+1+1)/\X2.n<X4.n):=
   ⟨C5,(R3.out.2.1.trans f4).set (a:=⟨F.cb,11,none⟩) C4.ocb _,⟨rfl,s5.home,s5.ms,s5.n1,s5.n2,s5.nk⟩,by have:=R3.out.2.2.2;omega⟩
  clear N4 C4 f4 s4 hj4 C5 s5;go_wp2_with fail
  refine(I1.out _ _ R5.out.1 (by rw[HW1.out];exact HB.out.next R5.out.2.2.1 (c1:=W0+1) (c2:=W1) (by omega) (by omega) (by omega) (by omega))).mono ?_;rw[HW1.out];rintro e w6 ⟨X6,rfl,C6,f6,s6⟩;have s7:=R5.out.2.2.1.trans s6;have hj6:X2.n<X6.n:=by have:=R5.out.2.2.2;have:=s6.n1;simp only at this;omega
  obtain⟨g,cg,d9,⟨dv,dc⟩,dz,dn,dm,dX⟩:=C6.drew.aim (q:=2) hj6 (by omega);have dc':w6.cell? ⟨g,X2.n * 5+2,none⟩=some dv:=dc;have d9':w6.cell? ⟨F.cb,9,none⟩=some (.slice (some ⟨g,0,none⟩) X6.n cg):=d9;have dz':w6.frozen? ⟨g,X2.n * 5+2,none⟩=false:=dz;have R6:=hide (And.intro C6 (And.intro (R5.out.2.1.trans f6) (And.intro s7 dX)));clear C6 f6 s6 s7 dX dc d9 dz kc' n7 c11 z11;go_wp2_with fail
  go_region_with (first | (go_at_call 32;refine(at_any F X6 _ R6.out.1.drew).mono ?_;rintro e w' ⟨rfl,rfl⟩))
  all_goals
   go_end0
   obtain⟨C6,f6,s6,dX⟩:=R6.out;refine⟨_,rfl,(dX _).1,f6.drew.trans (dX _).2,?_⟩;exact⟨s6.top,s6.home.trans R5.out.2.2.1.home,s6.ms,s6.n1,by have:=s6.n2;simp only at this ⊢;omega,s6.nk⟩
end Go.Proofs.YtomcjennjcpdnaaGreatDoor

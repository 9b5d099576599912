import Derived.Test.YtofcbekoaghikaaGreatDoorPart37
import Derived.Test.YtofcbekoaghikaaGreatDoorPart39
import Derived.Test.YtofcbekoaghikaaGreatDoorPart04
import Derived.Deep.RegionHeld3
set_option linter.unusedSimpArgs false
set_option linter.unusedVariables false
set_option maxHeartbeats 8000000
set_option maxRecDepth 100000
namespace Go.Proofs.YtofcbekoaghikaaGreatDoor
open Go.RowKit
def AnsPost (n:Nat)(F:Nat->Bool)(w:World)(e:Ending)(w':World):Prop:=
 ∃ a c,e=.returned (.slice a n c)/\RowB w' a n F/\(∀ b,AtB a b->w.heap.size<=b/\b<w'.heap.size)/\Below w.heap.size w w'
def SpecAns (l:List FnD)(f:Int)(n:Nat)(F:Nat->Bool):Prop:=
 ∀(a:Option Addr) (c:Nat) (S:Nat->Prop) (w:World),FnsAt w S a l->(∀ b,S b->b<w.heap.size)->Calls Tryz.prog 5 #[.agg #[.slice a l.length c],.int .i64 f] w (AnsPost n F w)
def ImplAns (G:World->Prop)(l:List FnD)(f:Int)(n:Nat)(F:Nat->Bool):Prop:=
 ∀(a:Option Addr) (c:Nat) (S:Nat->Prop) (w:World),G w->FnsAt w S a l->(∀ b,S b->b<w.heap.size)->Calls Tryz.prog 7 #[.agg #[.slice a l.length c],.int .i64 f] w (AnsPost n F w)
structure LW (w:World)(a:Option Addr)(nl c:Nat)(aw:Option Addr)(n:Nat)(F:Nat->Bool)(W:World):Prop where
 old:Below w.heap.size w W
 box:W.cell? ⟨w.heap.size,0,none⟩=some (.slice a nl c)
 row:RowB W aw n F
 at_:∀ b,AtB aw b->w.heap.size<b/\b<W.heap.size
theorem LW.lt {w:World}{a:Option Addr}{nl c:Nat}{aw:Option Addr}{n:Nat}{F:Nat->Bool}{W:World}(h:LW w a nl c aw n F W):w.heap.size<W.heap.size:=World.block_lt_of_cell? _ _ h.box
theorem LW.next {w:World}{a:Option Addr}{nl c:Nat}{aw:Option Addr}{n:Nat}{F:Nat->Bool}{W W':World}(h:LW w a nl c aw n F W)(hb:Below W.heap.size W W'):LW w a nl c aw n F W':=
 ⟨h.old.trans (hb.mono h.old.size),(hb.cell (p:=⟨w.heap.size,0,none⟩) h.lt).trans h.box,h.row.below hb,fun b hb'=>⟨(h.at_ b hb').1,Nat.lt_of_lt_of_le (h.at_ b hb').2 hb.size⟩⟩
theorem LW.marked {w:World}{a:Option Addr}{nl c:Nat}{aw:Option Addr}{n:Nat}{F:Nat->Bool}{W W':World}{S:Nat->Prop}(h:LW w a nl c aw n F W)(hm:Mk S W W')(hS:∀ b,S b->w.heap.size<b)(hA:∀ b,AtB aw b->¬S b):LW w a nl c aw n F W' where
 old:=h.old.trans (hm.below (fun b hb=>Nat.le_of_lt (hS b hb)) h.old.size)
 box:=(World.cell?_of_block (a:=⟨w.heap.size,0,none⟩) (hm.block _ h.lt (fun hs=>Nat.lt_irrefl _ (hS _ hs)))).trans h.box
 row:=h.row.same (fun b hb=>hm.block b (h.at_ b hb).2 (hA b hb))
 at_:=fun b hb=>⟨(h.at_ b hb).1,Nat.lt_of_lt_of_le (h.at_ b hb).2 hm.size⟩
theorem RowB.marked {w w':World}{a:Option Addr}{n:Nat}{F:Nat->Bool}{S:Nat->Prop}(h:RowB w a n F)(hm:Mk S w w')(hA:∀ b,AtB a b->b<w.heap.size/\¬S b):RowB w' a n F:=h.same (fun b hb=>hm.block b (hA b hb).1 (hA b hb).2)
theorem toUnit_soft_from {a:Option Addr}{l:List FnD}{c:Nat}{S:Nat->Prop}(w W:World)(hs:FnsAt w S a l)(hB:∀ b,S b->b<w.heap.size)(hl:tFns l<=1048576)(hW:Below w.heap.size w W) :
  Calls Tryz.prog 6 #[.agg #[.slice a l.length c]] W fun e w'=>∃ a' c',e=.returned (.agg #[.slice a' l.length c'])/\FnsAt w' (New W.heap.size w') a' l/\BelowS W.heap.size W w':=
 toUnit_soft a l c S W (hs.keep hW hB) (fun b h=>Nat.lt_of_lt_of_le (hB b h) hW.size) hl
theorem law_cap (G:World->Prop)(hG:∀ w w',Below w.heap.size w w'->G w->G w')(a:Option Addr)(l:List FnD)(c:Nat)(f:Int)(n:Nat)(F:Nat->Bool)(hn:n<=1000000)(hsp:tFns l<=1048576->SpecAns l f n F)(him:tFns l<=1048576->ImplAns G l f n F)(S:Nat->Prop)(w:World)(g0:G w)(hs:FnsAt w S a l)(hB:∀ b,S b->b<w.heap.size) :
  Calls Tryz.prog 3 #[.agg #[.slice a l.length c],.int .i64 f] w fun e w'=>e=.returned (.bool true)/\Below w.heap.size w w':=by
 have hbA:∀ o,Below w.heap.size w (w.alloc o):=fun o=>(Below.refl _ _).alloc (Nat.le_refl _) o;have HS:=hide hs;have HB:=hide hB;have HG:=hide hG;have G0:=hide g0;have FN:Hid (∀ W:World,Below w.heap.size w W->FnsAt W S a l/\∀ b,S b->b<W.heap.size):=fun W hW=>⟨hs.keep hW hB,fun b h=>Nat.lt_of_lt_of_le (hB b h) hW.size⟩;have HBA:=hide hbA;have HSP:=hide hsp;have HIM:=hide him;clear hs hB hG g0 hbA hsp him;by_cases q:(1048576:Int)<tFns l
 ·have B1:Hid (bud 1048576 (tFns l)=-1):=bud_no q;go_enter Tryz.func3,Tryz.ntmps3;go_wp2_with fail
  refine(szUnit_any a l c S _ (unhide FN _ (unhide HBA _)).1 (unhide FN _ (unhide HBA _)).2).mono ?_;rintro e w1 ⟨rfl,hb1⟩;rw[B1.out];go_wp2_with fail
  go_ret;exact⟨rfl,(unhide HBA _).trans (hb1.mono (unhide HBA _).size)⟩
 have hl:tFns l<=1048576:=by omega
 have B1:Hid (bud 1048576 (tFns l)=1048576-tFns l):=bud_yes (by omega);have hle:(tFns l:Int)<=1048576:=by omega
 go_enter Tryz.func3,Tryz.ntmps3;go_wp2_with fail
 refine(szUnit_any a l c S _ (unhide FN _ (unhide HBA _)).1 (unhide FN _ (unhide HBA _)).2).mono ?_;rintro e w1 ⟨rfl,hb1⟩;rw[B1.out];have hw1:Below w.heap.size w w1:=(unhide HBA _).trans (hb1.mono (unhide HBA _).size);have v1:w1.cell? ⟨w.heap.size,0,none⟩=some (.slice a l.length c):=by rw[hb1.cell (p:=⟨w.heap.size,0,none⟩) (by simp)];simp[go_sem]
 have s1:w.heap.size+1<=w1.heap.size:=by have:=hb1.size;simpa using this
 have s1':w.heap.size<w1.heap.size:=by omega
 clear hb1;go_wp2_with fail
 refine(toUnit_from w1 _ (unhide FN _ hw1).1 (unhide FN _ hw1).2 hl (Below.refl _ _)).mono ?_;rintro e w2 ⟨a2,c2,rfl,hF2,hb2⟩;have hw2:Below w.heap.size w w2:=hw1.trans (hb2.mono hw1.size);have v2:w2.cell? ⟨w.heap.size,0,none⟩=some (.slice a l.length c):=(hb2.cell (p:=⟨w.heap.size,0,none⟩) s1').trans v1;have s2:=hb2.size;clear hb2 v1;go_wp2_with fail
 refine(unhide HSP hl a2 c2 _ w2 hF2 (fun b h=>h.2)).mono ?_;rintro e w3 ⟨aw,cw,rfl,hr3,ha3,hb3⟩;have L3:LW w a l.length c aw n F w3:=⟨hw2.trans (hb3.mono hw2.size),(hb3.cell (p:=⟨w.heap.size,0,none⟩) (by show w.heap.size<w2.heap.size;omega)).trans v2,hr3,fun b hb=>⟨by have:=(ha3 b hb).1;omega,(ha3 b hb).2⟩⟩;have v3:=L3.box;have s3:=L3.lt;have H3:=hide L3;clear hb3 v2 hF2 hr3 ha3 hw1 hw2 L3 s2 s1 s1';go_wp2_with fail
 refine(toUnit_soft_from w _ (unhide HS) (unhide HB) hl (unhide H3).old).mono ?_;rintro e w4 ⟨a4,c4,rfl,hF4,hb4⟩;have L4:=(unhide H3).next hb4.1;have hso4:SoftFrom w3.heap.size w4:=hb4.soft;have s4:w3.heap.size<=w4.heap.size:=hb4.size;have A4:=hide (fun b (hb:AtB aw b)=>(unhide H3).at_ b hb);have HF4:=hide hF4;have HSO:=hide hso4;have H4:=hide L4;have s4':w.heap.size<w4.heap.size:=by omega
 clear hF4 hso4 hb4 v3;go_wp2_with fail
 refine(unhide HIM hl a4 c4 _ _ (unhide HG _ _ ((unhide H4).old.alloc (unhide H4).old.size _) (unhide G0)) ((unhide HF4).keep (B:=w4.heap.size) ((Below.refl _ _).alloc (Nat.le_refl _) _) (fun b h=>h.2)) (fun b h=>by have:=h.2;simp;omega)).mono ?_;rintro e w5 ⟨ag,cg,rfl,hr5,ha5,hb5⟩;have hA4:Below w4.heap.size w4 w5:=((Below.refl _ _).alloc (Nat.le_refl _) _).trans (hb5.mono (by simp));have s5:w4.heap.size+1<=w5.heap.size:=by have:=hb5.size;simpa using this
 have L5:=(unhide H4).next hA4;have x5:w5.cell? ⟨w4.heap.size,0,none⟩=some (.slice a4 l.length c4):=by rw[hb5.cell (p:=⟨w4.heap.size,0,none⟩) (by simp)];simp[go_sem]
 have HF5:=hide ((unhide HF4).keep hA4 (fun b h=>h.2));have AG:Hid (∀ b,AtB ag b->w4.heap.size<b/\b<w5.heap.size):=fun b hb=>⟨by have:=(ha5 b hb).1;simp at this;omega,(ha5 b hb).2⟩;have H5:=hide L5;have R5:=hide hr5;clear hb5 ha5 L5 hr5 L4;go_wp2_with fail
 refine(eqBoolS_same _ _ _ _ _ F _ (unhide R5) (unhide H5).row (by omega)).mono ?_;rintro e w6 ⟨rfl,hb6⟩;have L6:=(unhide H5).next hb6;have x6:w6.cell? ⟨w4.heap.size,0,none⟩=some (.slice a4 l.length c4):=(hb6.cell (p:=⟨w4.heap.size,0,none⟩) s5).trans x5;have v6:=L6.box;have s6:=hb6.size;have R6:=hide ((unhide R5).below hb6);have HF6:=hide ((unhide HF5).keep (B:=w4.heap.size) (hb6.mono (by omega)) (fun b h=>h.2));have HSO6:Hid (∀ b,New w3.heap.size w4 b->∀ o,w6.frozen? ⟨b,o,none⟩=false):=fun b hb o=>by
  rw[hb6.frozen (p:=⟨b,o,none⟩) (by have:=hb.2;show b<w5.heap.size;omega),hA4.frozen (p:=⟨b,o,none⟩) hb.2];exact unhide HSO b hb.1 o
 have H6:=hide L6;clear x5 hb6 hA4 L6 H5 R5 HF5 HF4;have TU:Hid (Calls Tryz.prog 6 #[.agg #[.slice a l.length c]] w6.drew fun e w'=>∃ a' c',e=.returned (.agg #[.slice a' l.length c'])/\FnsAt w' (New w6.heap.size w') a' l/\Below w6.heap.size w6.drew w'):=toUnit_from w w6.drew (unhide HS) (unhide HB) hl (unhide H6).old.drew;have EU:Hid (∀(w7:World) (a7:Option Addr) (c7:Nat),FnsAt w7 (New w6.heap.size w7) a7 l->Below w6.heap.size w6.drew w7->Calls Tryz.prog 9 #[.agg #[.slice a4 l.length c4],.agg #[.slice a7 l.length c7]] w7 fun e w'=>e=.returned (.bool true)/\Below w7.heap.size w7 w'):=fun w7 a7 c7 h7 hb7=>
  eqUnit_from (S:=fun b=>b<w7.heap.size) w7 (((unhide HF6).keep (B:=w6.heap.size) (w':=w7) ⟨hb7.os,hb7.tape,hb7.output,hb7.size,hb7.block⟩ (fun b h=>by have:=h.2;omega)).mono (fun b h=>by have:=h.2;have:=hb7.size;simp at this;omega)) (h7.mono (fun b h=>h.2)) (fun b h=>h)
 have CL:Hid (∀ w7,Below w6.heap.size w6.drew w7->w7.cell? ⟨w.heap.size,0,none⟩=some (.slice a l.length c)/\w7.cell? ⟨w4.heap.size,0,none⟩=some (.slice a4 l.length c4)):=fun w7 h7=>
  ⟨(h7.cell (p:=⟨w.heap.size,0,none⟩) (by show w.heap.size<w6.heap.size;omega)).trans v6,(h7.cell (p:=⟨w4.heap.size,0,none⟩) (by show w4.heap.size<w6.heap.size;omega)).trans x6⟩
 have s6a:w.heap.size<w6.heap.size:=by omega
 have s6b:w4.heap.size<w6.heap.size:=by omega
 go_wp2_with fail
 go_region_held3 (fun w'=>w'.cell? ⟨w.heap.size,0,none⟩=some (.slice a l.length c)/\w'.cell? ⟨w4.heap.size,0,none⟩=some (.slice a4 l.length c4)) (simp[go_sem, *])
  (first
   | (go_at_call 6;refine(unhide TU).mono ?_;rintro e w7 ⟨a7,c7,rfl,hF7,hb7⟩;obtain⟨v7,x7⟩:=unhide CL w7 hb7)
   | (go_at_call 9;refine(unhide EU _ _ _ hF7 hb7).mono ?_;rintro e w8 ⟨rfl,hb8⟩;have v8:=(hb8.cell (p:=⟨w.heap.size,0,none⟩) (by have:=hb7.size;simp at this ⊢;omega)).trans v7;have x8:=(hb8.cell (p:=⟨w4.heap.size,0,none⟩) (by have:=hb7.size;simp at this ⊢;omega)).trans x7))
 have hb68:Below w6.heap.size w6 w8:=by
  have h1:Below w6.heap.size w6 w6.drew:=(Below.refl _ _).drew;exact(h1.trans hb7).trans (hb8.mono hb7.size)
 have L8:=(unhide H6).next hb68;have s8:=hb68.size;have HF8:=hide ((unhide HF6).keep (B:=w4.heap.size) (hb68.mono (by omega)) (fun b h=>h.2));have R8:=hide ((unhide R6).below hb68);have SO8:Hid (Soft w8 (New w3.heap.size w4)):=fun b hb=>⟨by have:=hb.2;omega,fun o=>by
  rw[hb68.frozen (p:=⟨b,o,none⟩) (by have:=hb.2;show b<w6.heap.size;omega)];exact unhide HSO6 b hb o⟩
 have H8:=hide L8;clear L8 hb68 hb7 hb8 hF7 v7 x7 TU EU CL R6 HF6 H6 x6 v6 HSO6;have hmf:Hid (1+(sumAll mFn l:Int)<=1000000000):=by have:=mFns_le l;show _<=_;omega
 have hlen:l.length<=tFns l:=by unfold tFns;omega
 have MU:Hid (Calls Tryz.prog 10 #[.agg #[.slice a4 l.length c4],.int .i64 1] w8 fun e w'=>e=.returned (.int .i64 (1+sumAll mFn l))/\Mk (New w3.heap.size w4) w8 w'):=
  markUnit_any a4 l c4 1 _ w8 (fnsM_of (unhide HF8)) (unhide SO8) (by omega) (unhide hmf) (by omega)
 go_wp2_with fail
 refine(unhide MU).mono ?_;rintro e w9 ⟨rfl,m9⟩;have L9:=(unhide H8).marked m9 (fun b hb=>by have:=hb.1;omega) (fun b hb hb'=>by have:=(unhide A4 b hb).2;have:=hb'.1;omega);have R9:=hide ((unhide R8).marked m9 (fun b hb=>⟨by have:=(unhide AG b hb).2;omega,fun hb'=>by have:=(unhide AG b hb).1;have:=hb'.2;omega⟩));have s9:=m9.size;have H9:=hide L9;have hk0:¬(1+(sumAll mFn l:Int)<0):=by omega
 clear L9 m9 H8 R8 HF8 SO8 MU x8 v8;generalize 1+(sumAll mFn l:Int)=kk at *;go_wp2_with fail
 refine(eqBoolS_same _ _ _ _ _ F _ (unhide R9) (unhide H9).row (by omega)).mono ?_;rintro e w10 ⟨rfl,hb10⟩;have H10:=hide ((unhide H9).next hb10);have R10:=hide ((unhide R9).below hb10);have s10:=hb10.size;clear hb10 H9 R9;go_wp2_with fail
 refine(markBoolS_any ag n cg 1 F w10 (unhide R10) (by omega) (by omega)).mono ?_;rintro e w11 ⟨rfl,hr11,m11⟩;have H11:=hide ((unhide H10).marked m11 (fun b hb=>by have:=(unhide AG b hb).1;omega) (fun b hb hb'=>by have:=(unhide AG b hb').1;have:=(unhide A4 b hb).2;omega));have R11:=hide hr11;have s11:=m11.size;clear hr11 m11 H10 R10;go_wp2_with fail
 refine(heldBoolS_any ag n cg 1 w11 (unhide R11) (by omega) (by omega)).mono ?_;rintro e w12 ⟨rfl,hb12⟩;have H12:=hide ((unhide H11).next hb12);have R12:=hide ((unhide R11).below hb12);have v12:=(unhide H12).box;have s12:=hb12.size;have hne:((1+(n:Int)) != (1+(n:Int)))=false:=by simp
 have hk1:¬(1+(n:Int)<0):=by omega
 clear hb12 H11 R11;go_wp2_with fail
 refine(toUnit_from w _ (unhide HS) (unhide HB) hl (unhide H12).old).mono ?_;rintro e w13 ⟨a13,c13,rfl,hF13,hb13⟩;have H13:=hide ((unhide H12).next hb13);have R13:=hide ((unhide R12).below hb13);have HF13:=hide hF13;have s13:=hb13.size;clear hb13 hF13 H12 R12 v12;go_wp2_with fail
 refine(unhide HIM hl a13 c13 _ _ (unhide HG _ _ (unhide H13).old (unhide G0)) (unhide HF13) (fun b h=>h.2)).mono ?_;rintro e w14 ⟨ah,ch,rfl,hr14,_,hb14⟩;have H14:=hide ((unhide H13).next hb14);have R14:=hide ((unhide R13).below hb14);have Q14:=hide hr14;clear hb14 hr14 H13 R13 HF13;go_wp2_with fail
 refine(eqBoolS_same _ _ _ _ _ F _ (unhide Q14) (unhide H14).row (by omega)).mono ?_;rintro e w15 ⟨rfl,hb15⟩;have H15:=hide ((unhide H14).next hb15);have R15:=hide ((unhide R14).below hb15);clear hb15 H14 R14 Q14;go_wp2_with fail
 refine(heldBoolS_any ag n cg 1 w15 (unhide R15) (by omega) (by omega)).mono ?_;rintro e w16 ⟨rfl,hb16⟩;have H16:=hide ((unhide H15).next hb16);clear hb16;go_wp2_with fail
 go_ret;exact⟨rfl,(unhide H16).old⟩
end Go.Proofs.YtofcbekoaghikaaGreatDoor

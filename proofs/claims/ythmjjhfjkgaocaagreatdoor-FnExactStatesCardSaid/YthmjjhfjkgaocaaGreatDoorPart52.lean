import Derived.Test.YthmjjhfjkgaocaaGreatDoorPart51
import Derived.Test.YthmjjhfjkgaocaaGreatDoorPart50
import Derived.Test.YthmjjhfjkgaocaaGreatDoorPart03
import Derived.Test.YthmjjhfjkgaocaaGreatDoorPart04
import Derived.Deep.RegionHeld3
import Derived.Test.YthmjjhfjkgaocaaGreatDoorPart16
import Derived.Test.YthmjjhfjkgaocaaGreatDoorRows
import Derived.OpenShut
import Derived.Lib.LaidTab
set_option linter.unusedSimpArgs false
set_option linter.unusedVariables false
set_option maxHeartbeats 8000000
set_option maxRecDepth 100000
namespace Go.Proofs.YthmjjhfjkgaocaaGreatDoor
open Go.RowKit
theorem newVerifier_verify (a:Option Addr)(l:List ProtoD)(c p:Nat)(S:Nat→Prop)(w:World)(hs:ProtosAt w S a l)(hB:∀ b,S b→b<w.heap.size)(hk:WkOk l p)(hul:∀ x,x∈l→x.ups.length≤250)(hG:RTab w) :
  Calls Tryz.prog 19 #[.agg #[.slice a l.length c],.int .i64 (p:Int)] w fun e w'=>∃ bV bS,e=.returned (.pointer (some ⟨bV,0,none⟩))∧VfB w bV bS w'.heap.size∧Below w.heap.size w w'∧Calls Tryz.prog 20 #[.pointer (some ⟨bV,0,none⟩)] w' (VyPostS l p w bV bS w'.heap.size):=by
 obtain⟨nm,ln,pr,rs,rg,a5,a6,a7,a8,n5,n6,n8,c5,c6,c7,c8,⟨e1,e2,e3,i7⟩,hNV⟩:=newVerifier_any a l c p S w hs hB hk.here hk.few
 exact hNV.mono (fun e w' ⟨bV,bS,e0,h1,h2,h3⟩=>⟨bV,bS,e0,h1,h3,verify_end l p c a S w hs hB hk hul hG nm ln pr rs rg _ _ _ a7 c7 e1 e2 e3 i7 bV bS _ w' h1 h2⟩)
def RowOf (l:List ProtoD)(x:ProtoD)(base:Nat)(v:Value)(w':World):Prop:=
 ∃(k:Nat) (σ:Mst) (bS bT:Nat) (R:Nat→Value×Value),v=.slice (some ⟨bS,0,none⟩) x.ins.length x.ins.length∧Goes l x k σ∧NoDue σ x.ins.length∧MOk x.regs.toNat x.ins.length σ∧base≤bS∧SR w' bS bT x.ins.length (rS σ) (tS σ) (gS σ) R∧Apt R x.ins.length
def IsPost (l:List ProtoD)(f:Int)(w:World)(e:Ending)(w':World):Prop:=
 ∃ v,e=.returned v∧((CodeSaid l 0 0 0∧0≤f∧f<l.length∧RowOf l (prD l f.toNat) w.heap.size v w')∨(¬(CodeSaid l 0 0 0∧0≤f∧f<l.length)∧v=.slice none 0 0))∧Below w.heap.size w w'
theorem sIn_no {x lo hi:Int}(h:¬(lo≤x∧x≤hi)):sIn x lo hi=false:=by
 cases e:sIn x lo hi with
 | false=>rfl
 | true=>exact absurd (sIn_true e) h
theorem impl_States_any (a:Option Addr)(l:List ProtoD)(c:Nat)(f:Int)(S:Nat→Prop)(w:World)(hs:ProtosAt w S a l)(hB:∀ b,S b→b<w.heap.size)(hl:tProtos l≤1048576)(hG:RTab w) :
  Calls Tryz.prog 7 #[.agg #[.slice a l.length c],.int .i64 f] w (IsPost l f w):=by
 have hll:l.length≤1048576:=by unfold tProtos at hl;omega
 have HBA:Hid (∀ o,Below w.heap.size w (w.alloc o)):=fun o=>(Below.refl _ _).alloc (Nat.le_refl _) o
 have FN:Hid (∀ W:World,Below w.heap.size w W→ProtosAt W S a l∧(∀ b,S b→b<W.heap.size)∧RTab W):=fun W hW=>⟨hs.keep hW hB,fun b h=>Nat.lt_of_lt_of_le (hB b h) hW.size,hG.keep hW hG.pos⟩
 clear hs hB hG
 go_enter Tryz.func7,Tryz.ntmps7
 go_wp2_with fail
 refine(checkCode_any a l c S _ (FN.out _ (HBA.out _)).1 (FN.out _ (HBA.out _)).2.1 hl (FN.out _ (HBA.out _)).2.2).mono ?_
 rintro e w1 ⟨x,f0,n0,rfl,hsaid,hb1⟩
 have hw1:Below w.heap.size w w1:=(HBA.out _).trans (hb1.mono (HBA.out _).size)
 have v1:w1.cell? ⟨w.heap.size,0,none⟩=some (.slice a l.length c):=by rw[hb1.cell (p:=⟨w.heap.size,0,none⟩) (by simp)];simp[go_sem]
 have s1:w.heap.size+1≤w1.heap.size:=by have:=hb1.size;simpa using this
 have s1':w.heap.size<w1.heap.size:=by omega
 have HW1:=hide hw1
 have HS:=hide hsaid
 clear hb1 hw1 hsaid
 by_cases hx:x=0
 case neg=>
  have hxb:(x != 0)=true:=by simpa using hx
  have hxb2:(x==0)=false:=by simpa using hx
  have RES:Hid (IsPost l f w (.returned (.slice none 0 0)) w1):=⟨_,rfl,.inr ⟨fun h=>hx (codeSaid_unique HS.out h.1).1,rfl⟩,HW1.out⟩
  clear hx
  go_wp2_with fail
  go_ret
  exact RES.out
 subst hx
 obtain⟨rfl,rfl,hsh,hwk⟩:=codeSaid_0 HS.out
 by_cases hf:0≤f∧f≤(l.length:Int)-1
 case neg=>
  have RES:Hid (IsPost l f w (.returned (.slice none 0 0)) w1):=⟨_,rfl,.inr ⟨fun h=>hf ⟨h.2.1,by have:=h.2.2;omega⟩,rfl⟩,HW1.out⟩
  have HF:=hide hf
  clear hsh hwk hf
  go_wp2_with fail
  refine(within_any _ _ _ _).mono ?_
  rintro e w2 ⟨rfl,rfl⟩
  rw[sIn_no HF.out]
  go_wp2_with fail
  go_ret
  exact RES.out
 obtain⟨p,rfl⟩:=Int.eq_ofNat_of_zero_le hf.1
 have hp:p<l.length:=by omega
 have hk:=wkOk_of hsh hp
 have NV:Hid (Calls Tryz.prog 19 #[.agg #[.slice a l.length c],.int .i64 (p:Int)] w1 fun e w'=>∃ bV bS,e=.returned (.pointer (some ⟨bV,0,none⟩))∧VfB w1 bV bS w'.heap.size∧Below w1.heap.size w1 w'∧Calls Tryz.prog 20 #[.pointer (some ⟨bV,0,none⟩)] w' (VyPostS l p w1 bV bS w'.heap.size)):=
  newVerifier_verify a l c p S w1 (FN.out _ HW1.out).1 (FN.out _ HW1.out).2.1 hk (ups_250 hsh) (FN.out _ HW1.out).2.2
 have HWS:=hide (hwk p hp)
 have hin:sIn (p:Int) 0 ((l.length:Int)-1)=true:=by unfold sIn;simp;omega
 have HIN:=hide hin
 clear hsh hwk FN hk hf hin
 go_wp2_with fail
 refine(within_any _ _ _ _).mono ?_
 rintro e w2 ⟨rfl,rfl⟩
 rw[HIN.out]
 go_wp2_with fail
 refine NV.out.mono ?_
 rintro e w3 ⟨bV,bS,rfl,hvb,hb3,hvy⟩
 have VY:=hide hvy
 have HVB:=hide hvb
 clear hvy hb3 NV hvb
 go_wp2_with fail
 refine VY.out.mono ?_
 rintro e w4 ⟨x4,n4,rfl,hws,hb4,hend⟩
 obtain⟨rfl,rfl⟩:=walkSaid_unique HWS.out hws
 obtain⟨k,σ,H,R,iv,li,g1,g2,g3,hV⟩:=hend rfl
 have c11:w4.cell? ⟨bV,11,none⟩=some (.slice (some ⟨bS,0,none⟩) (prD l p).ins.length (prD l p).ins.length):=by
  rw[hV.box.cell (i:=11) (by omega)]
  rfl
 have lV:=hV.box.lt
 have RES:Hid (IsPost l p w (.returned (.slice (some ⟨bS,0,none⟩) (prD l p).ins.length (prD l p).ins.length)) w4):=
  ⟨_,rfl,.inl ⟨HS.out,by omega,by omega,k,σ,bS,_,R,rfl,g1,g2,g3,by have:=HVB.out.o2;omega,sr_of HVB.out.o5 hV.sts hV.own hV.none_,hV.inj⟩,HW1.out.trans (hb4.mono HW1.out.size)⟩
 clear hws hend g1 g2 g3 hV hb4 HS HWS HVB VY
 go_wp2_with fail
 go_ret
 exact RES.out
def AnsS (N:Nat)(r:Nat→Bool)(t:Nat→List Int)(g:Nat→List GuD)(ap:Prop)(w:World)(e:Ending)(w':World):Prop:=
 ∃ a c,e=.returned (.slice a N c)∧StA w' w.heap.size w'.heap.size N r t g ap a∧Below w.heap.size w w'
def SpecAnsS (l:List ProtoD)(f:Int)(N:Nat)(r:Nat→Bool)(t:Nat→List Int)(g:Nat→List GuD):Prop:=
 ∀(a:Option Addr) (c:Nat) (S:Nat→Prop) (w:World),ProtosAt w S a l→(∀ b,S b→b<w.heap.size)→Calls Tryz.prog 5 #[.agg #[.slice a l.length c],.int .i64 f] w (AnsS N r t g False w)
def ImplAnsS (l:List ProtoD)(f:Int)(N:Nat)(r:Nat→Bool)(t:Nat→List Int)(g:Nat→List GuD):Prop:=
 ∀(a:Option Addr) (c:Nat) (S:Nat→Prop) (w:World),RTab w→ProtosAt w S a l→(∀ b,S b→b<w.heap.size)→Calls Tryz.prog 7 #[.agg #[.slice a l.length c],.int .i64 f] w (AnsS N r t g True w)
structure LS (w:World)(a:Option Addr)(nl c:Nat)(aw:Option Addr)(hi N:Nat)(r:Nat→Bool)(t:Nat→List Int)(g:Nat→List GuD)(W:World):Prop where
 old:Below w.heap.size w W
 box:W.cell? ⟨w.heap.size,0,none⟩=some (.slice a nl c)
 row:StA W (w.heap.size+1) hi N r t g False aw
 lh:w.heap.size<hi
 hh:hi≤W.heap.size
section
variable {w:World} {a:Option Addr} {nl c:Nat} {aw:Option Addr} {hi N:Nat} {r:Nat→Bool} {t:Nat→List Int} {g:Nat→List GuD} {W W':World}
theorem LS.next (h:LS w a nl c aw hi N r t g W)(hb:Below W.heap.size W W'):LS w a nl c aw hi N r t g W':=
 ⟨h.old.trans (hb.mono h.old.size),(hb.cell (p:=⟨w.heap.size,0,none⟩) (Nat.lt_of_lt_of_le h.lh h.hh)).trans h.box,h.row.below h.hh hb,h.lh,Nat.le_trans h.hh hb.size⟩
theorem LS.marked {S:Nat→Prop}(h:LS w a nl c aw hi N r t g W)(hm:Mk S W W')(hS:∀ b,S b→hi≤b):LS w a nl c aw hi N r t g W' where
 old:=h.old.trans (hm.below (fun b hb=>by have:=hS b hb;have:=h.lh;omega) h.old.size)
 box:=(World.cell?_of_block (a:=⟨w.heap.size,0,none⟩) (hm.block _ (Nat.lt_of_lt_of_le h.lh h.hh) (fun hs=>by have:hi≤w.heap.size:=hS _ hs;have:=h.lh;omega))).trans h.box
 row:=h.row.marked h.hh hm (fun b h1 h2 h3=>by have:=hS b h3;omega)
 lh:=h.lh
 hh:=Nat.le_trans h.hh hm.size
end
theorem toCode_soft_from {a:Option Addr}{l:List ProtoD}{c:Nat}{S:Nat→Prop}(w W:World)(hs:ProtosAt w S a l)(hB:∀ b,S b→b<w.heap.size)(hl:tProtos l≤1048576)(hW:Below w.heap.size w W) :
  Calls Tryz.prog 6 #[.agg #[.slice a l.length c]] W fun e w'=>∃ a' c',e=.returned (.agg #[.slice a' l.length c'])∧ProtosAt w' (New W.heap.size w') a' l∧BelowS W.heap.size W w':=
 toCode_soft a l c S W (hs.keep hW hB) (fun b h=>Nat.lt_of_lt_of_le (hB b h) hW.size) hl
theorem toCode_fr {a:Option Addr}{l:List ProtoD}{c:Nat}{S:Nat→Prop}(w W:World)(hs:ProtosAt w S a l)(hB:∀ b,S b→b<w.heap.size)(hl:tProtos l≤1048576)(hW:Below w.heap.size w W) :
  Calls Tryz.prog 6 #[.agg #[.slice a l.length c]] W fun e w'=>∃ a' c',e=.returned (.agg #[.slice a' l.length c'])∧ProtosAt w' (New W.heap.size w') a' l∧Below W.heap.size W w':=
 (toCode_soft_from w W hs hB hl hW).mono (fun e w' ⟨a',c',h1,h2,h3⟩=>⟨a',c',h1,h2,h3.1⟩)
theorem eqCode_fr {a b:Option Addr}{l:List ProtoD}{ca cb:Nat}{S:Nat→Prop}(W:World)(h1:ProtosAt W S a l)(h2:ProtosAt W S b l)(hB:∀ b,S b→b<W.heap.size) :
  Calls Tryz.prog 9 #[.agg #[.slice a l.length ca],.agg #[.slice b l.length cb]] W fun e w'=>e=.returned (.bool true)∧Below W.heap.size W w':=eqCode_same a b l ca cb S W h1 h2 hB
theorem law_states (a:Option Addr)(l:List ProtoD)(c:Nat)(f:Int)(N:Nat)(r:Nat→Bool)(t:Nat→List Int)(g:Nat→List GuD)(hn:N≤1000000)(hL:∀ i,(t i).length≤1000∧(g i).length≤1000)(hsp:tProtos l≤1048576→SpecAnsS l f N r t g)(him:tProtos l≤1048576→ImplAnsS l f N r t g)(S:Nat→Prop)(w:World)(g0:RTab w)(hs:ProtosAt w S a l)(hB:∀ b,S b→b<w.heap.size) :
  Calls Tryz.prog 3 #[.agg #[.slice a l.length c],.int .i64 f] w fun e w'=>e=.returned (.bool true)∧Below w.heap.size w w':=by
 have hbA:∀ o,Below w.heap.size w (w.alloc o):=fun o=>(Below.refl _ _).alloc (Nat.le_refl _) o
 have HS:=hide hs
 have HB:=hide hB
 have G0:=hide g0
 have FN:Hid (∀ W:World,Below w.heap.size w W→ProtosAt W S a l∧∀ b,S b→b<W.heap.size):=fun W hW=>⟨hs.keep hW hB,fun b h=>Nat.lt_of_lt_of_le (hB b h) hW.size⟩
 have HBA:=hide hbA
 have HSP:=hide hsp
 have HIM:=hide him
 have hm0:=(stK_le (t:=t) (g:=g) (k:=1) (by decide) hL N).1
 have HL:=hide hL
 clear hs hB g0 hbA hsp him hL
 by_cases q:(1048576:Int)<tProtos l
 ·have B1:Hid (bud 1048576 (tProtos l)=-1):=bud_no q
  go_enter Tryz.func3,Tryz.ntmps3
  go_wp2_with fail
  refine(szCode_any a l c S _ (unhide FN _ (unhide HBA _)).1 (unhide FN _ (unhide HBA _)).2).mono ?_
  rintro e w1 ⟨rfl,hb1⟩
  rw[B1.out]
  go_wp2_with fail
  go_ret
  exact⟨rfl,(unhide HBA _).trans (hb1.mono (unhide HBA _).size)⟩
 have hl:tProtos l≤1048576:=by omega
 have B1:Hid (bud 1048576 (tProtos l)=1048576-tProtos l):=bud_yes (by omega)
 have hle:(tProtos l:Int)≤1048576:=by omega
 obtain⟨mm,hmm⟩:∃ mm,stK t g 1 N=mm:=⟨_,rfl⟩
 rw[hmm]at hm0
 have MS:Hid (∀(ag:Option Addr) (lo hi cg:Nat) (W:World),StA W lo hi N r t g True ag→Calls Tryz.prog 11 #[.slice ag N cg,.int .i64 1] W fun e w'=>e=.returned (.int .i64 mm)∧StA w' lo hi N (mkR t g 1) (mkT t g 1) (mkG t g 1) True ag∧Mk (fun b=>lo≤b) W w'):=fun ag lo hi cg W h=>by
  rw[←hmm];exact markStateS_a cg W h HL.out (by omega)
 have HE:Hid (∀(ag:Option Addr) (lo hi cg:Nat) (W:World),StA W lo hi N (mkR t g 1) (mkT t g 1) (mkG t g 1) True ag→Calls Tryz.prog 12 #[.slice ag N cg,.int .i64 1] W fun e w'=>e=.returned (.int .i64 mm)∧Below W.heap.size W w'):=fun ag lo hi cg W h=>by
  rw[←hmm];exact heldStateS_a cg W h HL.out (by omega)
 clear hmm
 go_enter Tryz.func3,Tryz.ntmps3
 go_wp2_with fail
 refine(szCode_any a l c S _ (unhide FN _ (unhide HBA _)).1 (unhide FN _ (unhide HBA _)).2).mono ?_
 rintro e w1 ⟨rfl,hb1⟩
 rw[B1.out]
 have hw1:Below w.heap.size w w1:=(unhide HBA _).trans (hb1.mono (unhide HBA _).size)
 have v1:w1.cell? ⟨w.heap.size,0,none⟩=some (.slice a l.length c):=by rw[hb1.cell (p:=⟨w.heap.size,0,none⟩) (by simp)];simp[go_sem]
 have s1:w.heap.size+1≤w1.heap.size:=by have:=hb1.size;simpa using this
 have s1':w.heap.size<w1.heap.size:=by omega
 clear hb1
 go_wp2_with fail
 refine(toCode_fr w1 _ (unhide FN _ hw1).1 (unhide FN _ hw1).2 hl (Below.refl _ _)).mono ?_
 rintro e w2 ⟨a2,c2,rfl,hF2,hb2⟩
 have hw2:Below w.heap.size w w2:=hw1.trans (hb2.mono hw1.size)
 have v2:w2.cell? ⟨w.heap.size,0,none⟩=some (.slice a l.length c):=(hb2.cell (p:=⟨w.heap.size,0,none⟩) s1').trans v1
 have s2:=hb2.size
 clear hb2 v1
 go_wp2_with fail
 refine(unhide HSP hl a2 c2 _ w2 hF2 (fun b h=>h.2)).mono ?_
 rintro e w3 ⟨aw,cw,rfl,hr3,hb3⟩
 have hr3':StA w3 (w.heap.size+1) w3.heap.size N r t g False aw:=by
  rcases hr3 with h | ⟨bS,bT,R,e,h⟩
  ·exact .inl h
  ·exact .inr ⟨bS,bT,R,e,{ h with ge:=by have:=h.ge;omega }⟩
 have L3:LS w a l.length c aw w3.heap.size N r t g w3:=⟨hw2.trans (hb3.mono hw2.size),(hb3.cell (p:=⟨w.heap.size,0,none⟩) (by show w.heap.size<w2.heap.size;omega)).trans v2,hr3',by have:=hb3.size;omega,Nat.le_refl _⟩
 have v3:=L3.box
 have s3:=L3.lh
 have H3:=hide L3
 clear hb3 v2 hF2 hr3 hr3' hw1 hw2 L3 s2 s1 s1'
 go_wp2_with fail
 refine(toCode_soft_from w _ (unhide HS) (unhide HB) hl (unhide H3).old).mono ?_
 rintro e w4 ⟨a4,c4,rfl,hF4,hb4⟩
 have L4:=(unhide H3).next hb4.1
 have hso4:SoftFrom w3.heap.size w4:=hb4.2 (SoftFrom.start _)
 have s4:w3.heap.size≤w4.heap.size:=hb4.size
 have HF4:=hide hF4
 have HSO:=hide hso4
 have H4:=hide L4
 have s4':w.heap.size<w4.heap.size:=by omega
 clear hF4 hso4 hb4 v3
 go_wp2_with fail
 refine(unhide HIM hl a4 c4 _ _ ((unhide G0).keep ((unhide H4).old.alloc (unhide H4).old.size _) (unhide G0).pos) ((unhide HF4).keep (B:=w4.heap.size) ((Below.refl _ _).alloc (Nat.le_refl _) _) (fun b h=>h.2)) (fun b h=>by have:=h.2;simp;omega)).mono ?_
 rintro e w5 ⟨ag,cg,rfl,hr5,hb5⟩
 have hA4:Below w4.heap.size w4 w5:=((Below.refl _ _).alloc (Nat.le_refl _) _).trans (hb5.mono (by simp))
 have s5:w4.heap.size+1≤w5.heap.size:=by have:=hb5.size;simpa using this
 have L5:=(unhide H4).next hA4
 have x5:w5.cell? ⟨w4.heap.size,0,none⟩=some (.slice a4 l.length c4):=by rw[hb5.cell (p:=⟨w4.heap.size,0,none⟩) (by simp)];simp[go_sem]
 have HF5:=hide ((unhide HF4).keep hA4 (fun b h=>h.2))
 obtain⟨hi5,eh5⟩:∃ hi5,w5.heap.size=hi5:=⟨_,rfl⟩
 have R5:Hid (StA w5 (w4.heap.size+1) hi5 N r t g True ag):=by
  rw[eh5]at hr5
  show StA _ _ _ _ _ _ _ _ _
  simpa using hr5
 have H5:=hide L5
 clear hb5 L5 hr5 L4
 go_wp2_with fail
 refine(eqStateS_a _ _ _ (unhide R5) (unhide H5).row (by omega)).mono ?_
 rintro e w6 ⟨rfl,hb6⟩
 have L6:=(unhide H5).next hb6
 have x6:w6.cell? ⟨w4.heap.size,0,none⟩=some (.slice a4 l.length c4):=(hb6.cell (p:=⟨w4.heap.size,0,none⟩) s5).trans x5
 have v6:=L6.box
 have s6:=hb6.size
 have h6:hi5≤w6.heap.size:=by omega
 have R6:=hide ((unhide R5).below (by omega) hb6)
 have HF6:=hide ((unhide HF5).keep (B:=w4.heap.size) (hb6.mono (by omega)) (fun b h=>h.2))
 have HSO6:Hid (∀ b,New w3.heap.size w4 b→∀ o,w6.frozen? ⟨b,o,none⟩=false):=fun b hb o=>by
  rw[hb6.frozen (p:=⟨b,o,none⟩) (by have:=hb.2;show b<w5.heap.size;omega),hA4.frozen (p:=⟨b,o,none⟩) hb.2]
  exact unhide HSO b hb.1 o
 have H6:=hide L6
 clear x5 hb6 hA4 L6 H5 R5 HF5 HF4
 have TU:Hid (Calls Tryz.prog 6 #[.agg #[.slice a l.length c]] w6.drew fun e w'=>∃ a' c',e=.returned (.agg #[.slice a' l.length c'])∧ProtosAt w' (New w6.heap.size w') a' l∧Below w6.heap.size w6.drew w'):=toCode_fr w w6.drew (unhide HS) (unhide HB) hl (unhide H6).old.drew
 have EU:Hid (∀(w7:World) (a7:Option Addr) (c7:Nat),ProtosAt w7 (New w6.heap.size w7) a7 l→Below w6.heap.size w6.drew w7→Calls Tryz.prog 9 #[.agg #[.slice a4 l.length c4],.agg #[.slice a7 l.length c7]] w7 fun e w'=>e=.returned (.bool true)∧Below w7.heap.size w7 w'):=fun w7 a7 c7 h7 hb7=>
  eqCode_fr (S:=fun b=>b<w7.heap.size) w7 (((unhide HF6).keep (B:=w6.heap.size) (w':=w7) ⟨hb7.os,hb7.tape,hb7.output,hb7.size,hb7.block⟩ (fun b h=>by have:=h.2;omega)).mono (fun b h=>by have:=h.2;have:=hb7.size;simp at this;omega)) (h7.mono (fun b h=>h.2)) (fun b h=>h)
 have CL:Hid (∀ w7,Below w6.heap.size w6.drew w7→w7.cell? ⟨w.heap.size,0,none⟩=some (.slice a l.length c)∧w7.cell? ⟨w4.heap.size,0,none⟩=some (.slice a4 l.length c4)):=fun w7 h7=>
  ⟨(h7.cell (p:=⟨w.heap.size,0,none⟩) (by show w.heap.size<w6.heap.size;omega)).trans v6,(h7.cell (p:=⟨w4.heap.size,0,none⟩) (by show w4.heap.size<w6.heap.size;omega)).trans x6⟩
 have s6a:w.heap.size<w6.heap.size:=by omega
 have s6b:w4.heap.size<w6.heap.size:=by omega
 go_wp2_with fail
 go_region_held3 (fun w'=>w'.cell? ⟨w.heap.size,0,none⟩=some (.slice a l.length c)∧w'.cell? ⟨w4.heap.size,0,none⟩=some (.slice a4 l.length c4)) (simp[go_sem, *])
  (first
   | (go_at_call 6;refine(unhide TU).mono ?_;rintro e w7 ⟨a7,c7,rfl,hF7,hb7⟩;obtain⟨v7,x7⟩:=unhide CL w7 hb7)
   | (go_at_call 9;refine(unhide EU _ _ _ hF7 hb7).mono ?_;rintro e w8 ⟨rfl,hb8⟩;have v8:=(hb8.cell (p:=⟨w.heap.size,0,none⟩) (by have:=hb7.size;simp at this ⊢;omega)).trans v7;have x8:=(hb8.cell (p:=⟨w4.heap.size,0,none⟩) (by have:=hb7.size;simp at this ⊢;omega)).trans x7))
 have hb68:Below w6.heap.size w6 w8:=by
  have h1:Below w6.heap.size w6 w6.drew:=(Below.refl _ _).drew
  exact(h1.trans hb7).trans (hb8.mono hb7.size)
 have L8:=(unhide H6).next hb68
 have s8:=hb68.size
 have HF8:=hide ((unhide HF6).keep (B:=w4.heap.size) (hb68.mono (by omega)) (fun b h=>h.2))
 have R8:=hide ((unhide R6).below h6 hb68)
 have SO8:Hid (Soft w8 (New w3.heap.size w4)):=fun b hb=>⟨by have:=hb.2;omega,fun o=>by
  rw[hb68.frozen (p:=⟨b,o,none⟩) (by have:=hb.2;show b<w6.heap.size;omega)];exact unhide HSO6 b hb o⟩
 have H8:=hide L8
 clear L8 hb68 hb7 hb8 hF7 v7 x7 TU EU CL R6 HF6 H6 x6 v6 HSO6
 have hmf:Hid (1+(sumAll mProto l:Int)≤1000000000):=by have:=mProtos_le l;show _≤_;omega
 have hlen:l.length≤tProtos l:=by unfold tProtos;omega
 have MU:Hid (Calls Tryz.prog 10 #[.agg #[.slice a4 l.length c4],.int .i64 1] w8 fun e w'=>e=.returned (.int .i64 (1+sumAll mProto l))∧Mk (New w3.heap.size w4) w8 w'):=
  markCode_any a4 l c4 1 _ w8 (protosM_of (unhide HF8)) (unhide SO8) (by omega) (unhide hmf) (by omega)
 go_wp2_with fail
 refine(unhide MU).mono ?_
 rintro e w9 ⟨rfl,m9⟩
 have L9:=(unhide H8).marked m9 (fun b hb=>hb.1)
 have R9:=hide ((unhide R8).marked (by omega) m9 (fun b h1 h2 h3=>by have:=h3.2;omega))
 have s9:=m9.size
 have H9:=hide L9
 have hk0:¬(1+(sumAll mProto l:Int)<0):=by omega
 clear L9 m9 H8 R8 HF8 SO8 MU x8 v8
 generalize 1+(sumAll mProto l:Int)=kk at *
 go_wp2_with fail
 refine(eqStateS_a _ _ _ (unhide R9) (unhide H9).row (by omega)).mono ?_
 rintro e w10 ⟨rfl,hb10⟩
 have H10:=hide ((unhide H9).next hb10)
 have R10:=hide ((unhide R9).below (by omega) hb10)
 have s10:=hb10.size
 clear hb10 H9 R9
 go_wp2_with fail
 refine(unhide MS ag _ _ cg w10 (unhide R10)).mono ?_
 rintro e w11 ⟨rfl,hr11,m11⟩
 have H11:=hide ((unhide H10).marked m11 (fun b hb=>by omega))
 have R11:=hide hr11
 have s11:=m11.size
 clear hr11 m11 H10 R10
 go_wp2_with fail
 refine(unhide HE ag _ _ cg w11 (unhide R11)).mono ?_
 rintro e w12 ⟨rfl,hb12⟩
 have H12:=hide ((unhide H11).next hb12)
 have R12:=hide ((unhide R11).below (by omega) hb12)
 have v12:=(unhide H12).box
 have s12:=hb12.size
 have hne:(mm != mm)=false:=by simp
 have hk1:¬(mm<0):=by omega
 clear hb12 H11 R11
 go_wp2_with fail
 refine(toCode_fr w _ (unhide HS) (unhide HB) hl (unhide H12).old).mono ?_
 rintro e w13 ⟨a13,c13,rfl,hF13,hb13⟩
 have H13:=hide ((unhide H12).next hb13)
 have R13:=hide ((unhide R12).below (by omega) hb13)
 have HF13:=hide hF13
 have s13:=hb13.size
 clear hb13 hF13 H12 R12 v12
 go_wp2_with fail
 refine(unhide HIM hl a13 c13 _ _ ((unhide G0).keep (unhide H13).old (unhide G0).pos) (unhide HF13) (fun b h=>h.2)).mono ?_
 rintro e w14 ⟨ah,ch,rfl,hr14,hb14⟩
 have H14:=hide ((unhide H13).next hb14)
 have R14:=hide ((unhide R13).below (by omega) hb14)
 have Q14:=hide hr14
 have s14:=hb14.size
 clear hb14 hr14 H13 R13 HF13
 go_wp2_with fail
 refine(eqStateS_a _ _ _ (unhide Q14) (unhide H14).row (by omega)).mono ?_
 rintro e w15 ⟨rfl,hb15⟩
 have H15:=hide ((unhide H14).next hb15)
 have R15:=hide ((unhide R14).below (by omega) hb15)
 clear hb15 H14 R14 Q14
 go_wp2_with fail
 refine(unhide HE ag _ _ cg w15 (unhide R15)).mono ?_
 rintro e w16 ⟨rfl,hb16⟩
 have H16:=hide ((unhide H15).next hb16)
 clear hb16
 go_wp2_with fail
 go_ret
 exact⟨rfl,(unhide H16).old⟩
theorem ans_states (l:List ProtoD)(f:Int):∃(N:Nat)(r:Nat→Bool)(t:Nat→List Int)(g:Nat→List GuD),N≤1000000∧(∀ i,(t i).length≤1000∧(g i).length≤1000)∧(tProtos l≤1048576→SpecAnsS l f N r t g)∧(tProtos l≤1048576→ImplAnsS l f N r t g):=by
 by_cases h:CodeSaid l 0 0 0∧0≤f∧f<l.length
 ·obtain⟨hc,h0,h1⟩:=h
  obtain⟨p,rfl⟩:=Int.eq_ofNat_of_zero_le h0
  have hp:p<l.length:=by omega
  obtain⟨_,_,hsh,hwk⟩:=codeSaid_0 hc
  have hk:=wkOk_of hsh hp
  obtain⟨k,σ,hgo,hend⟩:=hwk p hp
  have hok:MOk (prD l p).regs.toNat (prD l p).ins.length σ:=goes_ok (fun a ha=>shape_fit (hk.ins a ha) ha hk.regs.1) (start_ok (prD l p) hk.some_ hk.regs.1) hgo
  refine⟨(prD l p).ins.length,rS σ,tS σ,gS σ,by have:=hk.few;omega,fun i=>?_,fun hl a c S w hs hB=>?_,fun hl a c S w hG hs hB=>?_⟩
  ·unfold tS gS
   cases e:σ.st i with
   | none=>exact⟨by simp,by simp⟩
   | some s=>
    have q:=(hok.st i s e).2
    refine⟨?_,?_⟩
    ·show s.types.length≤1000
     have:=q.types;have:=hk.regs;omega
    ·show s.guards.length≤1000
     have:=q.many;omega
  ·refine(spec_States_any a l c p S w hs hB hl).mono ?_
   rintro e w' ⟨v,rfl,hv,hb⟩
   rcases hv with⟨_,_,_,k',σ',bS,bT,R,rfl,g1,g2,g3,g4,g5,g6,g7,g8⟩ | ⟨hno,_⟩
   ·rw[Int.toNat_natCast]at *
    obtain rfl:=ended_unique g1 (.inl g2) hgo hend.ended
    have hr:=sr_of g5 g6 g7 g8
    exact⟨_,_,rfl,.inr ⟨bS,bT,R,rfl,hr,fun h=>h.elim,g4,g6.lt,fun i hi k hk=>((hr.ty i hi).lt' k hk).2,fun i hi k hk=>((hr.gu i hi).lt' k hk).2⟩,hb⟩
   ·exact absurd ⟨hc,h0,h1⟩ hno
  ·refine(impl_States_any a l c p S w hs hB hl hG).mono ?_
   rintro e w' ⟨v,rfl,hv,hb⟩
   rcases hv with⟨_,_,_,k',σ',bS,bT,R,rfl,g1,g2,g3,g4,hr,ha⟩ | ⟨hno,_⟩
   ·rw[Int.toNat_natCast]at *
    obtain rfl:=ended_unique g1 (.inl g2) hgo hend.ended
    exact⟨_,_,rfl,.inr ⟨bS,bT,R,rfl,hr,fun _=>ha,g4,hr.row.lt,fun i hi k hk=>((hr.ty i hi).lt' k hk).2,fun i hi k hk=>((hr.gu i hi).lt' k hk).2⟩,hb⟩
   ·exact absurd ⟨hc,h0,h1⟩ hno
 ·refine⟨0,fun _=>false,fun _=>[],fun _=>[],by omega,fun i=>⟨by simp,by simp⟩,fun hl a c S w hs hB=>?_,fun hl a c S w hG hs hB=>?_⟩
  ·refine(spec_States_any a l c f S w hs hB hl).mono ?_
   rintro e w' ⟨v,rfl,⟨h1,h2,h3,_⟩ | ⟨_,rfl⟩,hb⟩
   ·exact absurd ⟨h1,h2,h3⟩ h
   ·exact⟨none,0,rfl,.inl ⟨rfl,rfl⟩,hb⟩
  ·refine(impl_States_any a l c f S w hs hB hl hG).mono ?_
   rintro e w' ⟨v,rfl,⟨h1,h2,h3,_⟩ | ⟨_,rfl⟩,hb⟩
   ·exact absurd ⟨h1,h2,h3⟩ h
   ·exact⟨none,0,rfl,.inl ⟨rfl,rfl⟩,hb⟩
theorem lawStates_any (a:Option Addr)(l:List ProtoD)(c:Nat)(f:Int)(S:Nat→Prop)(w:World)(g0:RTab w)(hs:ProtosAt w S a l)(hB:∀ b,S b→b<w.heap.size) :
  Calls Tryz.prog 3 #[.agg #[.slice a l.length c],.int .i64 f] w fun e w'=>e=.returned (.bool true)∧Below w.heap.size w w':=by
 obtain⟨N,r,t,g,h1,h2,h3,h4⟩:=ans_states l f
 exact law_states a l c f N r t g h1 h2 h3 h4 S w g0 hs hB
theorem c_role:Tryz.prog.cellsOf 194=4:=by kernel_rfl
theorem c_roles:Tryz.prog.cellsOf 195=172:=by kernel_rfl
theorem c_i:Tryz.prog.cellsOf 3=1:=by kernel_rfl
def rolesName:String:=Rows.fnExactStatesRow.named.headD ""
theorem g_roles:Tryz.prog.globalNamed rolesName=some 0:=by kernel_rfl
theorem g_type:(Tryz.prog.globals[0]?).map (·.type)=some 195:=by kernel_rfl
def roleDatum {H:Type}(i:Nat):DataW H:=.agg [.lit (.int .i64 (iRole i 0:Nat)),.lit (.int .i64 (iRole i 1:Nat)),.lit (.int .i64 (iRole i 2:Nat)),.lit (.int .i64 (iRole i 3:Nat))]
theorem laid_eq {H:Type}:(Rows.laid_loop_example_draft_impl_insRoles:DataW H)=.agg ((List.range 43).map roleDatum):=rfl
theorem len4L {α:Type}:∀(l:List α),l.length=4→∃ a b c d,l=[a,b,c,d]
 | [a,b,c,d],_=>⟨a,b,c,d,rfl⟩
 | [],h | [_],h | [_,_],h | [_,_,_],h | _::_::_::_::_::_,h=>by simp at h
section
variable {H:Type} {enc:TypeId×Value→H} {w:World} {base:Nat} {sp:Nat→Bool} {held:Bool} {fuel:Nat} {cs:List Value} {p:List MemPlace}
theorem role_cells {a0 a1 a2 a3:Int}(h:DataW.trod enc Tryz.prog w base sp held fuel 194 cs=some (.agg [.lit (.int .i64 a0),.lit (.int .i64 a1),.lit (.int .i64 a2),.lit (.int .i64 a3)],p)) :
  cs=[.int .i64 a0,.int .i64 a1,.int .i64 a2,.int .i64 a3]:=by
 obtain⟨xs,n,_,hx,hl,hlen,hf⟩:=DataW.trod_struct Tryz.underlying194 h
 rw[c_role]at hl
 have hlen:xs.length=4:=hlen
 obtain⟨v0,v1,v2,v3,rfl⟩:=len4L cs hl
 obtain⟨x0,x1,x2,x3,rfl⟩:=len4L xs hlen
 have f0:DataW.trod enc Tryz.prog w base sp held n 3 ((List.drop 0 [v0,v1,v2,v3]).take (Tryz.prog.cellsOf 3))=some x0:=hf 0 _ rfl
 have f1:DataW.trod enc Tryz.prog w base sp held n 3 ((List.drop 1 [v0,v1,v2,v3]).take (Tryz.prog.cellsOf 3))=some x1:=hf 1 _ rfl
 have f2:DataW.trod enc Tryz.prog w base sp held n 3 ((List.drop 2 [v0,v1,v2,v3]).take (Tryz.prog.cellsOf 3))=some x2:=hf 2 _ rfl
 have f3:DataW.trod enc Tryz.prog w base sp held n 3 ((List.drop 3 [v0,v1,v2,v3]).take (Tryz.prog.cellsOf 3))=some x3:=hf 3 _ rfl
 rw[c_i]at f0 f1 f2 f3
 obtain⟨z0,e0,rfl,_⟩:=DataW.trod_int Tryz.underlying3 f0
 obtain⟨z1,e1,rfl,_⟩:=DataW.trod_int Tryz.underlying3 f1
 obtain⟨z2,e2,rfl,_⟩:=DataW.trod_int Tryz.underlying3 f2
 obtain⟨z3,e3,rfl,_⟩:=DataW.trod_int Tryz.underlying3 f3
 simp at e0 e1 e2 e3 hx
 obtain⟨⟨h0,h1,h2,h3⟩,_⟩:=hx
 rw[e0,e1,e2,e3,h0,h1,h2,h3]
theorem roles_cells (h:DataW.trod enc Tryz.prog w base sp held fuel 195 cs=some (.agg ((List.range 43).map roleDatum),p)) :
  cs.length=172∧∀ i,i<43→∀ j,j<4→cs[i * 4+j]? = some (.int .i64 (iRole i j:Nat)):=by
 obtain⟨xs,m,_,hx,hl,hlen,hf⟩:=DataW.trod_array Tryz.underlying195 h
 rw[c_roles]at hl
 refine⟨hl,fun i hi=>?_⟩
 have h1:=hf i hi
 rw[c_role]at h1
 have hx1:(List.range 43).map roleDatum=xs.map (·.1):=by
  have:=congrArg Prod.fst hx
  simpa using this
 have h2:(xs[i]'(by omega)).1=roleDatum i:=by
  have e:=congrArg (·[i]?) hx1
  simp only[List.getElem?_map,List.getElem?_range hi,List.getElem?_eq_getElem (show i<xs.length by omega),Option.map_some,Option.some.injEq]at e
  exact e.symm
 rw[List.getElem?_eq_getElem (show i<xs.length by omega)]at h1
 generalize xs[i]'(by omega)=y at h1 h2
 obtain⟨y1,y2⟩:=y
 simp only at h2
 subst h2
 have h3:=role_cells h1
 have h4:∀ j,j<4→cs[i * 4+j]? = ((cs.drop (i * 4)).take 4)[j]?:=fun j hj=>by
  rw[List.getElem?_take,if_pos hj,List.getElem?_drop]
 intro j hj
 rw[h4 j hj,h3]
 have hc:j=0∨j=1∨j=2∨j=3:=by omega
 rcases hc with rfl | rfl | rfl | rfl<;>rfl
end
theorem rtab_of {W:World}(h:laidMetH Tryz.prog Rows.fnExactStatesRow.laid W):RTab W:=by
 have h:laidMet Tryz.prog [(rolesName,Rows.laid_loop_example_draft_impl_insRoles)] W:=h
 obtain⟨ps,⟨g',t',cs,fuel,p,q,hg',ht',hvar,hd,_,_⟩,_⟩:=h
 obtain rfl:=Option.some.inj (g_roles.symm.trans hg')
 obtain rfl:=Option.some.inj (g_type.symm.trans ht')
 rw[laid_eq]at hd
 obtain⟨h1,h2⟩:=roles_cells hd
 unfold World.var? at hvar
 rw[g_roles]at hvar
 simp only[Option.bind_some]at hvar
 cases e:W.heap[0]? with
 | none=>rw[e]at hvar;cases hvar
 | some o=>
  rw[e]at hvar
  cases o with
  | cells c t fr=>
   simp only[Option.some.injEq]at hvar
   subst hvar
   exact⟨_,t,fr,e,by simpa using h1,fun i hi j hj=>by simpa using h2 i hi j hj⟩
  | map es clock=>cases hvar
  | _=>cases hvar
end Go.Proofs.YthmjjhfjkgaocaaGreatDoor

import Derived.Test.YtgghbbpbdaghnaaDoorPart14
import Derived.Test.YtgghbbpbdaghnaaDoorPart04
import Derived.Test.YtgghbbpbdaghnaaDoorPart05
import Derived.Deep.RegionHeld3
set_option linter.unusedSimpArgs false
set_option linter.unusedVariables false
set_option maxHeartbeats 4000000
namespace Go.Proofs.YtgghbbpbdaghnaaDoor
open Go.RowKit
theorem FirstC.unique {l:List ProtoD}{len:Nat->Nat}{bad:Nat->Nat->Bool}{F P F' P':Nat}(h:FirstC l len bad F P)(h':FirstC l len bad F' P'):F=F'/\P=P':=by
 obtain⟨a1,a2,a3,a4⟩:=h;obtain⟨b1,b2,b3,b4⟩:=h';by_cases c1:F'<F\/F'=F/\P'<P
 ·have:=a4 F' P' b1 b2 c1;rw[b3]at this;cases this
 by_cases c2:F<F'\/F=F'/\P<P'
 ·have:=b4 F P a1 a2 c2;rw[a3]at this;cases this
 omega
theorem FirstC.not {l:List ProtoD}{len:Nat->Nat}{bad:Nat->Nat->Bool}{F P:Nat}(h:FirstC l len bad F P)(h':NoC l len bad):False:=by
 have:=h' F P h.1 h.2.1;rw[h.2.2.1]at this;cases this
theorem partsSaid_unique {l:List ProtoD}{c f n c' f' n':Int}(h:PartsSaid l c f n)(h':PartsSaid l c' f' n'):c=c'/\f=f'/\n=n':=by
 rcases h with⟨a1,rfl,rfl,rfl⟩ | ⟨a1,rfl,rfl,F,rfl,a2,a3,a4⟩ | ⟨a1,a2,rfl,F,P,rfl,rfl,a3⟩ | ⟨a1,a2,a4,rfl,F,P,rfl,rfl,a3⟩ | ⟨a1,a2,a4,a5,rfl,F,P,rfl,rfl,a3⟩ | ⟨a1,a2,a4,a5,a6,rfl,rfl,rfl⟩<;>
 rcases h' with⟨b1,rfl,rfl,rfl⟩ | ⟨b1,rfl,rfl,F',rfl,b2,b3,b4⟩ | ⟨b1,b2,rfl,F',P',rfl,rfl,b3⟩ | ⟨b1,b2,b4,rfl,F',P',rfl,rfl,b3⟩ | ⟨b1,b2,b4,b5,rfl,F',P',rfl,rfl,b3⟩ | ⟨b1,b2,b4,b5,b6,rfl,rfl,rfl⟩
 ·exact⟨rfl,rfl,rfl⟩
 ·exact absurd a1 b1
 ·exact absurd a1 b1
 ·exact absurd a1 b1
 ·exact absurd a1 b1
 ·exact absurd a1 b1
 ·exact absurd b1 a1
 ·by_cases e1:F<F'
  ·have:=b4 F e1;rw[a3]at this;cases this
  by_cases e2:F'<F
  ·have:=a4 F' e2;rw[b3]at this;cases this
  have:F=F':=by omega
  subst this;exact⟨rfl,rfl,rfl⟩
 ·have:=b2 F a2;rw[a3]at this;cases this
 ·have:=b2 F a2;rw[a3]at this;cases this
 ·have:=b2 F a2;rw[a3]at this;cases this
 ·have:=b2 F a2;rw[a3]at this;cases this
 ·exact absurd b1 a1
 ·have:=a2 F' b2;rw[b3]at this;cases this
 ·obtain⟨rfl,rfl⟩:=a3.unique b3;exact⟨rfl,rfl,rfl⟩
 ·exact(a3.not b4).elim
 ·exact(a3.not b4).elim
 ·exact(a3.not b4).elim
 ·exact absurd b1 a1
 ·have:=a2 F' b2;rw[b3]at this;cases this
 ·exact(b3.not a4).elim
 ·obtain⟨rfl,rfl⟩:=a3.unique b3;exact⟨rfl,rfl,rfl⟩
 ·exact(a3.not b5).elim
 ·exact(a3.not b5).elim
 ·exact absurd b1 a1
 ·have:=a2 F' b2;rw[b3]at this;cases this
 ·exact(b3.not a4).elim
 ·exact(b3.not a5).elim
 ·obtain⟨rfl,rfl⟩:=a3.unique b3;exact⟨rfl,rfl,rfl⟩
 ·exact(a3.not b6).elim
 ·exact absurd b1 a1
 ·have:=a2 F' b2;rw[b3]at this;cases this
 ·exact(b3.not a4).elim
 ·exact(b3.not a5).elim
 ·exact(b3.not a6).elim
 ·exact⟨rfl,rfl,rfl⟩
theorem shapeSaid_unique {l:List ProtoD}{c f n c' f' n':Int}(h:ShapeSaid l c f n)(h':ShapeSaid l c' f' n'):c=c'/\f=f'/\n=n':=by
 rcases h with⟨a1,a2⟩ | ⟨a1,rfl,F,P,rfl,rfl,a3⟩ | ⟨a1,a2,rfl,rfl,F,rfl,a5,a6,a3,a4⟩ | ⟨a1,a2,rfl,rfl,rfl,a9⟩<;>
 rcases h' with⟨b1,b2⟩ | ⟨b1,rfl,F',P',rfl,rfl,b3⟩ | ⟨b1,b2,rfl,rfl,F',rfl,b5,b6,b3,b4⟩ | ⟨b1,b2,rfl,rfl,rfl,b9⟩
 ·exact partsSaid_unique a1 b1
 ·exact absurd (partsSaid_unique a1 b1).1 a2
 ·exact absurd (partsSaid_unique a1 b1).1 a2
 ·exact absurd (partsSaid_unique a1 b1).1 a2
 ·exact absurd (partsSaid_unique b1 a1).1 b2
 ·obtain⟨rfl,rfl⟩:=a3.unique b3;exact⟨rfl,rfl,rfl⟩
 ·exact(a3.not b2).elim
 ·exact(a3.not b2).elim
 ·exact absurd (partsSaid_unique b1 a1).1 b2
 ·exact(b3.not a2).elim
 ·by_cases e1:F<F'
  ·have:=b4 F a5 e1;rw[a3]at this;cases this
  by_cases e2:F'<F
  ·have:=a4 F' b5 e2;rw[b3]at this;cases this
  have:F=F':=by omega
  subst this;exact⟨rfl,rfl,rfl⟩
 ·have:=b9 F a5 a6;rw[a3]at this;cases this
 ·exact absurd (partsSaid_unique b1 a1).1 b2
 ·exact(b3.not a2).elim
 ·have:=a9 F' b5 b6;rw[b3]at this;cases this
 ·exact⟨rfl,rfl,rfl⟩
def sel3 (v0 v1 v2:Value):Nat->Value
 | 0=>v0
 | 1=>v1
 | _=>v2
def ImplShape (G:World->Prop):Prop:=
 ∀(a:Option Addr) (l:List ProtoD) (c:Nat) (S:Nat->Prop) (w:World),G w->ProtosAt w S a l->(∀ b,S b->b<w.heap.size)->tProtos l<=1048576 ->
  Calls Tryd.prog 7 #[.agg #[.slice a l.length c]] w fun e w'=>∃ x f n,e=.returned (.agg #[.int .i64 x,.int .i64 f,.int .i64 n])/\ShapeSaid l x f n/\Below w.heap.size w w'
theorem eqCodeFault_same (c f n:Int)(w:World):Calls Tryd.prog 8 #[.agg #[.int .i64 c,.int .i64 f,.int .i64 n],.agg #[.int .i64 c,.int .i64 f,.int .i64 n]] w fun e w'=>e=.returned (.bool true)/\Below w.heap.size w w':=by
 have h1:(c != c)=false:=by simp
 have h2:(f != f)=false:=by simp
 have h3:(n != n)=false:=by simp
 go_enter Tryd.func8,Tryd.ntmps8;go_wp2_with fail
 go_ret;exact⟨rfl,by repeat (first | refine Below.alloc ?_ (by simp<;>omega) _ | exact Below.refl _ _)⟩
theorem toCode_from {a:Option Addr}{l:List ProtoD}{c:Nat}{S:Nat->Prop}(w W:World)(hs:ProtosAt w S a l)(hB:∀ b,S b->b<w.heap.size)(hl:tProtos l<=1048576)(hW:Below w.heap.size w W) :
  Calls Tryd.prog 6 #[.agg #[.slice a l.length c]] W fun e w'=>∃ a' c',e=.returned (.agg #[.slice a' l.length c'])/\ProtosAt w' (New W.heap.size w') a' l/\Below W.heap.size W w':=
 toCode_any a l c S W (hs.keep hW hB) (fun b h=>Nat.lt_of_lt_of_le (hB b h) hW.size) hl
theorem eqCode_from {a b:Option Addr}{l:List ProtoD}{ca cb:Nat}{S:Nat->Prop}(W:World)(h1:ProtosAt W S a l)(h2:ProtosAt W S b l)(hB:∀ b,S b->b<W.heap.size) :
  Calls Tryd.prog 9 #[.agg #[.slice a l.length ca],.agg #[.slice b l.length cb]] W fun e w'=>e=.returned (.bool true)/\Below W.heap.size W w':=eqCode_same a b l ca cb S W h1 h2 hB
theorem lawShape_any (G:World->Prop)(hG:∀ w w',Below w.heap.size w w'->G w->G w')(himp:ImplShape G)(a:Option Addr)(l:List ProtoD)(c:Nat)(S:Nat->Prop)(w:World)(g0:G w)(hs:ProtosAt w S a l)(hB:∀ b,S b->b<w.heap.size) :
  Calls Tryd.prog 3 #[.agg #[.slice a l.length c]] w fun e w'=>e=.returned (.bool true)/\Below w.heap.size w w':=by
 have hbA:∀ o,Below w.heap.size w (w.alloc o):=fun o=>(Below.refl _ _).alloc (Nat.le_refl _) o;have HS:=hide hs;have HB:=hide hB;have HG:=hide hG;have G0:=hide g0;have HI:=hide himp;have FN:Hid (∀ W:World,Below w.heap.size w W->ProtosAt W S a l/\∀ b,S b->b<W.heap.size):=fun W hW=>⟨hs.keep hW hB,fun b h=>Nat.lt_of_lt_of_le (hB b h) hW.size⟩;have HBA:=hide hbA;clear hs hB hG g0 himp hbA;by_cases q:(1048576:Int)<tProtos l
 ·have B1:Hid (bud 1048576 (tProtos l)=-1):=bud_no q;go_enter Tryd.func3,Tryd.ntmps3;go_wp2_with fail
  refine(szCode_any a l c S _ (unhide FN _ (unhide HBA _)).1 (unhide FN _ (unhide HBA _)).2).mono ?_;rintro e w1 ⟨rfl,hb1⟩;rw[B1.out];go_wp2_with fail
  go_ret;exact⟨rfl,(unhide HBA _).trans (hb1.mono (unhide HBA _).size)⟩
 have hl:tProtos l<=1048576:=by omega
 have B1:Hid (bud 1048576 (tProtos l)=1048576-tProtos l):=bud_yes (by omega);have hle:(tProtos l:Int)<=1048576:=by omega
 go_enter Tryd.func3,Tryd.ntmps3;go_wp2_with fail
 refine(szCode_any a l c S _ (unhide FN _ (unhide HBA _)).1 (unhide FN _ (unhide HBA _)).2).mono ?_;rintro e w1 ⟨rfl,hb1⟩;rw[B1.out];have hw1:Below w.heap.size w w1:=(unhide HBA _).trans (hb1.mono (unhide HBA _).size);have v1:w1.cell? ⟨w.heap.size,0,none⟩=some (.slice a l.length c):=by rw[hb1.cell (p:=⟨w.heap.size,0,none⟩) (by simp)];simp[go_sem]
 have s1:w.heap.size+1<=w1.heap.size:=by have:=hb1.size;simpa using this
 have s1':w.heap.size<w1.heap.size:=by omega
 clear hb1;go_wp2_with fail
 refine(toCode_from w1 _ (unhide FN _ hw1).1 (unhide FN _ hw1).2 hl (Below.refl _ _)).mono ?_;rintro e w2 ⟨a2,c2,rfl,hF2,hb2⟩;have hw2:Below w.heap.size w w2:=hw1.trans (hb2.mono hw1.size);have v2:w2.cell? ⟨w.heap.size,0,none⟩=some (.slice a l.length c):=(hb2.cell (p:=⟨w.heap.size,0,none⟩) s1').trans v1;have s2:=hb2.size;clear hb2 v1;go_wp2_with fail
 refine(checkShape_spec a2 l c2 _ w2 hF2 (fun b h=>h.2) hl).mono ?_;rintro e w3 ⟨x,f,n,rfl,hU3,hb3⟩;have hw3:Below w.heap.size w w3:=hw2.trans (hb3.mono hw2.size);have v3:w3.cell? ⟨w.heap.size,0,none⟩=some (.slice a l.length c):=(hb3.cell (p:=⟨w.heap.size,0,none⟩) (by show w.heap.size<w2.heap.size;omega)).trans v2;have s3:=hb3.size;have HU3:=hide hU3;clear hb3 v2 hF2 hU3;have s3':w.heap.size<w3.heap.size:=by omega
 go_wp2_with fail
 refine(toCode_from w _ (unhide HS) (unhide HB) hl (hw3.alloc hw3.size _)).mono ?_;rintro e w4 ⟨a4,c4,rfl,hF4,hb4⟩;have hw4:Below w.heap.size w w4:=(hw3.alloc hw3.size _).trans (hb4.mono (hw3.alloc hw3.size _).size);have s4:w3.heap.size+1<=w4.heap.size:=by have:=hb4.size;simpa using this
 have v4:w4.cell? ⟨w.heap.size,0,none⟩=some (.slice a l.length c):=by
  rw[hb4.cell (p:=⟨w.heap.size,0,none⟩) (by simp;omega),Below.cell (B:=w3.heap.size) ((Below.refl _ _).alloc (Nat.le_refl _) _) (p:=⟨w.heap.size,0,none⟩) (by show w.heap.size<w3.heap.size;omega)];exact v3
 have r4:∀ j,j<3->w4.cell? ⟨w3.heap.size,j,none⟩=some (sel3 (.int .i64 x) (.int .i64 f) (.int .i64 n) j):=fun j hj=>by
  rw[hb4.cell (p:=⟨w3.heap.size,j,none⟩) (by simp)];have:j=0\/j=1\/j=2:=by omega
  rcases this with rfl | rfl | rfl<;>simp[go_sem,sel3]
 have HF4:=hide hF4;have HR4:=hide r4;clear hb4 v3 hF4 r4;have s4':w.heap.size<w4.heap.size:=by omega
 have s4'':w3.heap.size<w4.heap.size:=by omega
 go_wp2_with fail
 refine(unhide HI a4 l c4 _ _ (unhide HG _ _ (hw4.alloc hw4.size _) (unhide G0)) ((unhide HF4).keep (B:=w4.heap.size) ((Below.refl _ _).alloc (Nat.le_refl _) _) (fun b h=>h.2)) (fun b h=>by have:=h.2;simp;omega) hl).mono ?_;rintro e w5 ⟨x',f',n',rfl,hU5,hb5⟩;obtain⟨rfl,rfl,rfl⟩:=shapeSaid_unique (unhide HU3) hU5;have hA4:Below w4.heap.size w4 w5:=((Below.refl _ _).alloc (Nat.le_refl _) _).trans (hb5.mono (by simp));have hw5:Below w.heap.size w w5:=hw4.trans (hA4.mono hw4.size);have s5:w4.heap.size+1<=w5.heap.size:=by have:=hb5.size;simpa using this
 have v5:w5.cell? ⟨w.heap.size,0,none⟩=some (.slice a l.length c):=(hA4.cell (p:=⟨w.heap.size,0,none⟩) s4').trans v4;have r5:∀ j,j<3->w5.cell? ⟨w3.heap.size,j,none⟩=_:=fun j hj=>(hA4.cell (p:=⟨w3.heap.size,j,none⟩) s4'').trans (unhide HR4 j hj);have r50:w5.cell? ⟨w3.heap.size,0,none⟩=some (.int .i64 x):=r5 0 (by omega);have r51:w5.cell? ⟨w3.heap.size,1,none⟩=some (.int .i64 f):=r5 1 (by omega);have r52:w5.cell? ⟨w3.heap.size,2,none⟩=some (.int .i64 n):=r5 2 (by omega);have x5:w5.cell? ⟨w4.heap.size,0,none⟩=some (.slice a4 l.length c4):=by rw[hb5.cell (p:=⟨w4.heap.size,0,none⟩) (by simp)];simp[go_sem]
 have HF5:=hide ((unhide HF4).keep hA4 (fun b h=>h.2));clear hb5 hU5 HU3 v4 r5 HR4;have s5':w.heap.size<w5.heap.size:=by omega
 have s5'':w3.heap.size<w5.heap.size:=by omega
 have s5''':w4.heap.size<w5.heap.size:=by omega
 go_wp2_with fail
 refine(eqCodeFault_same _ _ _ _).mono ?_;rintro e w6 ⟨rfl,hb6⟩;have hA5:Below w5.heap.size w5 w6:=((Below.refl _ _).alloc (Nat.le_refl _) _).trans (hb6.mono (by simp));have hw6:Below w.heap.size w w6:=hw5.trans (hA5.mono hw5.size);have v6:w6.cell? ⟨w.heap.size,0,none⟩=some (.slice a l.length c):=(hA5.cell (p:=⟨w.heap.size,0,none⟩) s5').trans v5;have x6:w6.cell? ⟨w4.heap.size,0,none⟩=some (.slice a4 l.length c4):=(hA5.cell (p:=⟨w4.heap.size,0,none⟩) s5''').trans x5;have s6:=hA5.size;have HF6:Hid (ProtosAt w6 (fun b=>b<w6.heap.size) a4 l):=((unhide HF5).keep hA5 (fun b h=>by have:=h.2;omega)).mono (fun b h=>by have:=h.2;omega);clear hb6 v5 x5 r50 r51 r52;have s6':w.heap.size<w6.heap.size:=by omega
 have s6'':w4.heap.size<w6.heap.size:=by omega
 have TU:Hid (Calls Tryd.prog 6 #[.agg #[.slice a l.length c]] w6.drew fun e w'=>∃ a' c',e=.returned (.agg #[.slice a' l.length c'])/\ProtosAt w' (New w6.heap.size w') a' l/\Below w6.heap.size w6.drew w'):=toCode_from w w6.drew (unhide HS) (unhide HB) hl hw6.drew;have EU:Hid (∀(w7:World) (a7:Option Addr) (c7:Nat),ProtosAt w7 (New w6.heap.size w7) a7 l->Below w6.heap.size w6.drew w7->Calls Tryd.prog 9 #[.agg #[.slice a4 l.length c4],.agg #[.slice a7 l.length c7]] w7 fun e w'=>e=.returned (.bool true)/\Below w7.heap.size w7 w'):=fun w7 a7 c7 h7 hb7=>
  eqCode_from (S:=fun b=>b<w7.heap.size) w7 (((unhide HF6).keep (B:=w6.heap.size) (w':=w7) ⟨hb7.os,hb7.tape,hb7.output,hb7.size,hb7.block⟩ (fun b h=>h)).mono (fun b h=>Nat.lt_of_lt_of_le h hb7.size)) (h7.mono (fun b h=>h.2)) (fun b h=>h)
 have CL:Hid (∀ w7,Below w6.heap.size w6.drew w7->w7.cell? ⟨w.heap.size,0,none⟩=some (.slice a l.length c)/\w7.cell? ⟨w4.heap.size,0,none⟩=some (.slice a4 l.length c4)):=fun w7 h7=>
  ⟨(h7.cell (p:=⟨w.heap.size,0,none⟩) s6').trans v6,(h7.cell (p:=⟨w4.heap.size,0,none⟩) s6'').trans x6⟩
 go_wp2_with fail
 go_region_held3 (fun w'=>w'.cell? ⟨w.heap.size,0,none⟩=some (.slice a l.length c)/\w'.cell? ⟨w4.heap.size,0,none⟩=some (.slice a4 l.length c4)) (simp[go_sem, *])
  (first
   | (go_at_call 6;refine(unhide TU).mono ?_;rintro e w7 ⟨a7,c7,rfl,hF7,hb7⟩;obtain⟨v7,x7⟩:=unhide CL w7 hb7)
   | (go_at_call 9;refine(unhide EU _ _ _ hF7 hb7).mono ?_;rintro e w8 ⟨rfl,hb8⟩;have v8:=(hb8.cell (p:=⟨w.heap.size,0,none⟩) (by have:=hb7.size;simp at this ⊢;omega)).trans v7;have x8:=(hb8.cell (p:=⟨w4.heap.size,0,none⟩) (by have:=hb7.size;simp at this ⊢;omega)).trans x7))
 all_goals (go_wp2_with fail)
 all_goals go_ret
 all_goals exact⟨rfl,(hw6.drew.trans (hb7.mono hw6.size)).trans (hb8.mono (Nat.le_trans hw6.size hb7.size))⟩
end Go.Proofs.YtgghbbpbdaghnaaDoor

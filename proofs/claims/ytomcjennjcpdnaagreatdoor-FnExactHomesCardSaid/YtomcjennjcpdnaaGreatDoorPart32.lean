import Derived.Test.YtomcjennjcpdnaaGreatDoorPart31
import Derived.Test.YtomcjennjcpdnaaGreatDoorPart27
import Derived.Test.YtomcjennjcpdnaaGreatDoorPart29
import Derived.Test.YtomcjennjcpdnaaGreatDoorPart22
set_option linter.unusedSimpArgs false
set_option linter.unusedVariables false
set_option maxHeartbeats 4000000
namespace Go.Proofs.YtomcjennjcpdnaaGreatDoor
set_option maxRecDepth 100000
set_option maxHeartbeats 4000000
open Go.RowKit
attribute [local go_sem] run_store_float
theorem one_other {F:CF}{l:List FnD}{f:Nat}{S:Nat->Prop}(U:UOk F l f S)(T:TreeOk (fnD l f).nodes)(i:Nat)(hi:i<(fnD l f).nodes.length)(hk:(nd (fnD l f).nodes i).kind<20\/38<(nd (fnD l f).nodes i).kind):OneOk F (fnD l f).nodes i:=by
 intro X w h B;have hW:=Wt_eq T hi;have HU:=hide U;have H:=hide h;have HB:=hide B;have HW:=hide hW;have hn:=node_any U X i w h hi;clear h B U hW T;generalize nd (fnD l f).nodes i=n at *;have t0:=HB.out.t0;have t1:X.top<=2000000:=by have:=HB.out.t1;omega
 have x20:(n.kind==20)=false:=by simp;omega
 have x21:(n.kind==21)=false:=by simp;omega
 have x22:(n.kind==22)=false:=by simp;omega
 have x23:(n.kind==23)=false:=by simp;omega
 have x24:(n.kind==24)=false:=by simp;omega
 have x25:(n.kind==25)=false:=by simp;omega
 have x26:(n.kind==26)=false:=by simp;omega
 have x27:(n.kind==27)=false:=by simp;omega
 have x28:(n.kind==28)=false:=by simp;omega
 have x29:(n.kind==29)=false:=by simp;omega
 have x30:(n.kind==30)=false:=by simp;omega
 have x31:(n.kind==31)=false:=by simp;omega
 have x32:(n.kind==32)=false:=by simp;omega
 have x33:(n.kind==33)=false:=by simp;omega
 have x34:(n.kind==34)=false:=by simp;omega
 have x35:(n.kind==35)=false:=by simp;omega
 have x36:(n.kind==36)=false:=by simp;omega
 have x37:(n.kind==37)=false:=by simp;omega
 have x38:(n.kind==38)=false:=by simp;omega
 clear hk;go_enter Tryz.func89,Tryz.ntmps89;go_wp2_with fail
 refine hn.mono ?_;rintro e w1 ⟨a1,c1,a2,c2,rfl,r1,r2,r3,b1⟩;have C1:=H.out.below b1;have c11:=C1.c11;have hcl:=C1.cbl;have r1':=r1.keep b1 (fun b hb=>(HU.out.far H.out b hb).1);have r2':=r2.keep b1 (fun b hb=>(HU.out.far H.out b hb).1);have N1:=hide (NBox.new (p1:=c1) (p2:=c2) rfl rfl rfl HU.out C1 r1' r2');have F1:Hid (Fr X.O X.O w w1):=.of_below b1;have HC1:=hide C1;unfold nodeV;clear C1 hn r1 r2 b1 r1' r2';have z11:=HC1.out.fz 11;have C2:=hide (HC1.out.top (X.top+1));have F2:=hide (F1.out.set (a:=⟨F.cb,11,none⟩) HC1.out.ocb (.int .i64 (X.top+1)));go_wp2_with fail
 go_ret;exact⟨_,rfl,C2.out.alloc _,F2.out.alloc _,rfl,rfl,rfl,Nat.le_refl _,Nat.le_add_right _ _,HB.out.nk⟩
structure ShOk (l:List FnD)(f nv:Nat):Prop where
 tree:TreeOk (fnD l f).nodes
 shape:∀ p,p<(fnD l f).nodes.length->sShape (fnD l f).nodes p=true
 var:∀ p,p<(fnD l f).nodes.length->(nd (fnD l f).nodes p).kind=26->∃ v:Nat,(nd (fnD l f).nodes p).refs[0]?.getD 0=(v:Int)/\v<nv
theorem one_many {F:CF}{l:List FnD}{f:Nat}{S:Nat->Prop}(U:UOk F l f S)(H:ShOk l f F.nv)(i:Nat):i<(fnD l f).nodes.length->OneOk F (fnD l f).nodes i/\(isMany (nd (fnD l f).nodes i).kind=true->ManyOk F (fnD l f).nodes i):=by
 induction i using Nat.strongRecOn with
 | _ i ih=>
  intro hi;have T:=H.tree;have hs:=H.shape i hi;have I1:∀ k,k<i->OneOk F (fnD l f).nodes k:=fun k hk=>(ih k hk (by omega)).1;have I2:∀ k,k<i->isMany (nd (fnD l f).nodes k).kind=true->ManyOk F (fnD l f).nodes k:=fun k hk=>(ih k hk (by omega)).2;have MM:isMany (nd (fnD l f).nodes i).kind=true->ManyOk F (fnD l f).nodes i:=fun hm=>by
   unfold isMany at hm;simp only[Bool.or_eq_true,beq_iff_eq]at hm;rcases hm with hm | hm
   ·intro X w h B;refine(many_34 U T i hi hm (sh_34 hs hm) I1 I2 X w h B).mono ?_;rintro e w' ⟨X',e1,e2,e3,e4⟩;exact⟨X',e1,e2,e3,e4.le (by omega)⟩
   ·exact many_37 U T i hi hm (sh_kids0 hs hm (by decide))
  refine⟨?_,MM⟩;generalize hk:(nd (fnD l f).nodes i).kind=k;by_cases hr:k<20\/38<k
  ·exact one_other U T i hi (by rw[hk];exact hr)
  ·have:k=20\/k=21\/k=22\/k=23\/k=24\/k=25\/k=26\/k=27\/k=28\/k=29\/k=30\/k=31\/k=32\/k=33\/k=34\/k=35\/k=36\/k=37\/k=38:=by omega
   rcases this with rfl | rfl | rfl | rfl | rfl | rfl | rfl | rfl | rfl | rfl | rfl | rfl | rfl | rfl | rfl | rfl | rfl | rfl | rfl
   ·exact one_20 U T i hi hk (sh_kids0 hs hk (by decide))
   ·exact one_21 U T i hi hk (sh_kids0 hs hk (by decide))
   ·exact one_22 U T i hi hk (sh_kids0 hs hk (by decide))
   ·exact one_23 U T i hi hk (sh_kids0 hs hk (by decide))
   ·exact one_24 U T i hi hk (sh_kids0 hs hk (by decide))
   ·exact one_25 U T i hi hk (sh_kids0 hs hk (by decide))
   ·exact one_26 U T i hi hk (sh_kids0 hs hk (by decide)) (sh_refs1 hs hk (by decide)) (H.var i hi hk)
   ·exact one_27 U T i hi hk (sh_kids0 hs hk (by decide)) (sh_refs1 hs hk (by decide))
   ·exact one_28 U T i hi hk (sh_kids0 hs hk (by decide))
   ·exact one_29 U T i hi hk (sh_kids2 hs hk (by decide)) I1
   ·exact one_30 U T i hi hk (sh_kids2 hs hk (by decide)) I1
   ·exact one_31 U T i hi hk (sh_kids1 hs hk (by decide)) I1
   ·exact one_32 U T i hi hk (sh_kids2 hs hk (by decide)) I1
   ·exact one_33 U T i hi hk (sh_kids2 hs hk (by decide)) I1
   ·exact one_34 U T i hi hk (many_34 U T i hi hk (sh_34 hs hk) I1 I2)
   ·exact one_35 U T i hi hk (sh_35 T hi hs hk).1 (sh_35 T hi hs hk).2 I1 I2
   ·exact one_36 U T i hi hk (sh_kids0 hs hk (by decide)) (sh_refs1 hs hk (by decide))
   ·exact one_37 U T i hi hk (sh_kids0 hs hk (by decide))
   ·exact one_38 U T i hi hk (sh_kids1 hs hk (by decide)) (fun q hq=>I2 q (by have:=(kids_lt T hi (k:=(q:Int)) (by rw[hq];exact List.mem_cons_self ..)).2;omega) (sh_38 T hi hs hk hq))
end Go.Proofs.YtomcjennjcpdnaaGreatDoor

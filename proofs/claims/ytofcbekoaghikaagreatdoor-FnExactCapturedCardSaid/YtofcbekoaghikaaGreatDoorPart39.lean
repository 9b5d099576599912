import Derived.Test.YtofcbekoaghikaaGreatDoorPart38
set_option linter.unusedSimpArgs false
set_option linter.unusedVariables false
set_option maxHeartbeats 800000
namespace Go.Proofs.YtofcbekoaghikaaGreatDoor
open Go.RowKit
theorem toStringS_softf {a:Option Addr}{l:List ByteArray}{c:Nat}{S:Nat->Prop}(w W:World)(hs:StrsAt w S a l)(hB:∀ b,S b->b<w.heap.size)(hl:l.length<=1048576)(hW:BelowS w.heap.size w W) :
  Calls Tryz.prog 44 #[.slice a l.length c] W fun e w'=>∃ a' c',e=.returned (.slice a' l.length c')/\StrsAt w' (New W.heap.size w') a' l/\BelowS W.heap.size W w':=
 toStringS_soft a l c S W (hs.keep hW.1 hB) (fun b h=>Nat.lt_of_lt_of_le (hB b h) hW.size) hl
theorem toUpS_softf {a:Option Addr}{l:List (Bool×Int)}{c:Nat}{S:Nat->Prop}(w W:World)(hs:UpsAt w S a l)(hB:∀ b,S b->b<w.heap.size)(hl:l.length<=1048576)(hW:BelowS w.heap.size w W) :
  Calls Tryz.prog 45 #[.slice a l.length c] W fun e w'=>∃ a' c',e=.returned (.slice a' l.length c')/\UpsAt w' (New W.heap.size w') a' l/\BelowS W.heap.size W w':=
 toUpS_soft a l c S W (hs.keep hW.1 hB) (fun b h=>Nat.lt_of_lt_of_le (hB b h) hW.size) hl
theorem toNodeS_softf {a:Option Addr}{l:List NodeD}{c:Nat}{S:Nat->Prop}(w W:World)(hs:NodesAt w S a l)(hB:∀ b,S b->b<w.heap.size)(hl:tNodes l<=1048576)(hW:BelowS w.heap.size w W) :
  Calls Tryz.prog 46 #[.slice a l.length c] W fun e w'=>∃ a' c',e=.returned (.slice a' l.length c')/\NodesAt w' (New W.heap.size w') a' l/\BelowS W.heap.size W w':=
 toNodeS_soft a l c S W (hs.keep hW.1 hB) (fun b h=>Nat.lt_of_lt_of_le (hB b h) hW.size) hl
theorem toFn_soft (nm:ByteArray)(ln pr:Int)(rs:Bool)(vs:List ByteArray)(us:List (Bool×Int))(ns:List NodeD)(a4 a5 a6:Option Addr)(c4 c5 c6:Nat)(S:Nat->Prop)(w:World)
  (h4:StrsAt w S a4 vs)(h5:UpsAt w S a5 us)(h6:NodesAt w S a6 ns)(hB:∀ b,S b->b<w.heap.size)(hl4:vs.length<=1048576)(hl5:us.length<=1048576)(hl6:tNodes ns<=1048576) :
  Calls Tryz.prog 25 #[.agg #[.string nm,.int .i64 ln,.int .i64 pr,.bool rs,.slice a4 vs.length c4,.slice a5 us.length c5,.slice a6 ns.length c6]] w fun e w'=>
   ∃ a4' c4' a5' c5' a6' c6',e=.returned (.agg #[.string nm,.int .i64 ln,.int .i64 pr,.bool rs,.slice a4' vs.length c4',.slice a5' us.length c5',.slice a6' ns.length c6'])/\StrsAt w' (New w.heap.size w') a4' vs/\UpsAt w' (New w.heap.size w') a5' us/\NodesAt w' (New w.heap.size w') a6' ns/\BelowS w.heap.size w w':=by
 go_enter Tryz.func25,Tryz.ntmps25;go_wp2_with fail
 refine(toStringS_softf w _ h4 hB hl4 ?hW).mono ?_
 case hW=>repeat (first | refine BelowS.alloc ?_ (by simp<;>omega) () | refine BelowS.setCell ?_ (by simp<;>omega) _ | exact BelowS.refl _ _)
 rintro e w1 ⟨a4',c4',rfl,hI4,hb1⟩;have hbw1:BelowS w.heap.size w w1:=by
  refine BelowS.trans (b:=_) ?_ (hb1.mono (by simp<;>omega))
  repeat (first | refine BelowS.alloc ?_ (by simp<;>omega) () | refine BelowS.setCell ?_ (by simp<;>omega) _ | exact BelowS.refl _ _)
 obtain⟨hc,hf⟩:=bcellS hb1;have hz:w.heap.size+1+1+1<=w1.heap.size:=by have:=hb1.size;simpa using this
 have hz0:w.heap.size<w1.heap.size:=by omega
 have hz1:w.heap.size+1<w1.heap.size:=by omega
 have hz2:w.heap.size+1+1<w1.heap.size:=by omega
 replace hI4:StrsAt w1 (New (w.heap.size+3) w1) a4' vs:=hI4.mono (fun b h=>⟨by have:=h.1;simp at this;omega,h.2⟩)
 clear hb1;go_wp2_with fail
 refine(toUpS_softf w _ h5 hB hl5 ?hW2).mono ?_
 case hW2=>repeat (first | refine BelowS.setCell ?_ (by simp<;>omega) _ | exact hbw1)
 rintro e w2 ⟨a5',c5',rfl,hI5,hb2⟩;obtain⟨hc2,hf2⟩:=bcellS hb2;have hy:w1.heap.size<=w2.heap.size:=by have:=hb2.size;simpa using this
 have hy0:w.heap.size<w2.heap.size:=by omega
 have hy1:w.heap.size+1<w2.heap.size:=by omega
 have hy2:w.heap.size+1+1<w2.heap.size:=by omega
 have hbw2:BelowS w.heap.size w w2:=by
  refine BelowS.trans (b:=_) ?_ (hb2.mono (by simp<;>omega))
  repeat (first | refine BelowS.setCell ?_ (by simp<;>omega) _ | exact hbw1)
 replace hI5:UpsAt w2 (New (w.heap.size+3) w2) a5' us:=hI5.mono (fun b h=>⟨by have:=h.1;simp at this;omega,h.2⟩)
 replace hI4:StrsAt w2 (New (w.heap.size+3) w1) a4' vs:=by
  refine hI4.same (Same.below (Same.setCell Same.refl ?_ _) hb2.1 (fun b h=>by have:=h.2;simpa using this));intro h;have:=h.1;simp at this;omega
 clear hb2;go_wp2_with fail
 refine(toNodeS_softf w _ h6 hB hl6 ?hW3).mono ?_
 case hW3=>repeat (first | refine BelowS.setCell ?_ (by simp<;>omega) _ | exact hbw2)
 rintro e w3 ⟨a6',c6',rfl,hI6,hb3⟩;obtain⟨hc3,hf3⟩:=bcellS hb3;have hv:w2.heap.size<=w3.heap.size:=by have:=hb3.size;simpa using this
 have hv0:w.heap.size<w3.heap.size:=by omega
 have hv1:w.heap.size+1<w3.heap.size:=by omega
 have hv2:w.heap.size+1+1<w3.heap.size:=by omega
 have hbw3:BelowS w.heap.size w w3:=by
  refine BelowS.trans (b:=_) ?_ (hb3.mono (by simp<;>omega))
  repeat (first | refine BelowS.setCell ?_ (by simp<;>omega) _ | exact hbw2)
 replace hI6:NodesAt w3 (New (w.heap.size+3) w3) a6' ns:=hI6.mono (fun b h=>⟨by have:=h.1;simp at this;omega,h.2⟩)
 replace hI5:UpsAt w3 (New (w.heap.size+3) w2) a5' us:=by
  refine hI5.same (Same.below (Same.setCell Same.refl ?_ _) hb3.1 (fun b h=>by have:=h.2;simpa using this));intro h;have:=h.1;simp at this;omega
 replace hI4:StrsAt w3 (New (w.heap.size+3) w1) a4' vs:=by
  refine hI4.same (Same.below (Same.setCell Same.refl ?_ _) hb3.1 (fun b h=>by have:=h.2;simp;omega));intro h;have:=h.1;simp at this;omega
 clear hb3;have p1:∀ W:World,¬New (w.heap.size+3) W (w.heap.size+1):=fun W h=>by have:=h.1;omega
 have p2:∀ W:World,¬New (w.heap.size+3) W (w.heap.size+1+1):=fun W h=>by have:=h.1;omega
 have b1:w.heap.size<=w.heap.size+1:=by omega
 have b2:w.heap.size<=w.heap.size+1+1:=by omega
 have m1:∀ V:World,V.heap.size<=w3.heap.size->∀ W:World,W.heap.size=w3.heap.size->∀ b,New (w.heap.size+3) V b->New w.heap.size W b:=fun V hV W e b h=>⟨by have:=h.1;omega,by have:=h.2;omega⟩;have q1:w1.heap.size<=w3.heap.size:=by omega
 have M:=hide (And.intro (And.intro p1 p2) (And.intro (And.intro b1 b2) (And.intro m1 (And.intro q1 hv))));clear p1 p2 b1 b2 m1 q1;go_wp2_with fail
 obtain⟨⟨p1,p2⟩,⟨b1,b2⟩,m1,q1,q2⟩:=unhide M;refine bodyPost_ret (v:=.agg #[.string nm,.int .i64 ln,.int .i64 pr,.bool rs,.slice a4' vs.length c4',.slice a5' us.length c5',.slice a6' ns.length c6']) (by simp[results,Tryz.results25,go_sem,hc,hc2,hc3,hz1,hy1]) rfl ⟨a4',c4',a5',c5',a6',c6',rfl,?_,?_,?_,?_⟩
 ·refine(hI4.same ?_).mono (m1 _ q1 _ (by simp))
  iterate 7 refine Same.setCell ?_ (p1 _) _
  refine Same.setCell ?_ (p2 _) _;exact Same.refl
 ·refine(hI5.same ?_).mono (m1 _ q2 _ (by simp))
  iterate 7 refine Same.setCell ?_ (p1 _) _
  refine Same.setCell ?_ (p2 _) _;exact Same.refl
 ·refine(hI6.same ?_).mono (m1 _ (Nat.le_refl _) _ (by simp))
  iterate 7 refine Same.setCell ?_ (p1 _) _
  refine Same.setCell ?_ (p2 _) _;exact Same.refl
 ·iterate 7 refine BelowS.setCell ?_ b1 _
  refine BelowS.setCell ?_ b2 _;exact hbw3
theorem toFnS_soft (a:Option Addr)(l:List FnD)(c:Nat)(S:Nat->Prop)(w:World)(hs:FnsAt w S a l)(hB:∀ b,S b->b<w.heap.size)(hl:tFns l<=1048576) :
  Calls Tryz.prog 16 #[.slice a l.length c] w fun e w'=>∃ a' c',e=.returned (.slice a' l.length c')/\FnsAt w' (New w.heap.size w') a' l/\BelowS w.heap.size w w':=by
 have hn:=hs.1;have hll:l.length<=1048576:=by unfold tFns at hl;omega
 have hel:∀ k,k<l.length->(l[k]?.getD FnD.z).vars.length<=1048576/\(l[k]?.getD FnD.z).ups.length<=1048576/\tNodes (l[k]?.getD FnD.z).nodes<=1048576:=fun k hk=>by
  have h1:=sumTo_succ tFn l k FnD.z hk;have h2:=sumTo_le tFn l (k+1);unfold tFns at hl;generalize l[k]?.getD FnD.z=fd at *;have h3:tFn fd=fd.name.size+tStrs fd.vars+fd.ups.length+tNodes fd.nodes:=rfl;have h4:tStrs fd.vars=fd.vars.length+sumAll ByteArray.size fd.vars:=rfl;refine⟨?_,?_,?_⟩<;>omega
 have HEL:=hide hel;clear hel hl;have hmk:∀ w:World,(Instr.makeSlice 28 (.int .i64 (l.length:Int)) (.int .i64 (l.length:Int))).run Tryz.prog w=.ok (.slice (some ⟨w.heap.size,0,none⟩) l.length l.length) (w.alloc (.cells (madeCells fnZ (l.length * 7)) 54)):=
  run_make_wide (P:=Tryz.prog) 28 54 _ 7 112 Tryz.underlying28 info_fn .i64 .i64 l.length (by omega) hn
 go_enter Tryz.func16,Tryz.ntmps16;go_wp2_with fail
 clear hmk;go_loopw [4] (fun i wr=>∃(k:Nat) (R:Nat->FnR),k<=l.length/\i=.int .i64 k/\BelowS w.heap.size w wr /\
   wr.rowIs w.heap.size 54 (l.length * 7) (fun j=>if j / 7<k then fnCell (l[j / 7]?.getD FnD.z) (R (j / 7)) (j % 7)else fnZ[j % 7]!) /\
   (∀ i,i<k->StrsAt wr (New (w.heap.size+1) wr) (R i).va (l[i]?.getD FnD.z).vars/\UpsAt wr (New (w.heap.size+1) wr) (R i).ua (l[i]?.getD FnD.z).ups/\NodesAt wr (New (w.heap.size+1) wr) (R i).na (l[i]?.getD FnD.z).nodes)) (fun i _=>l.length-(intOf i).toNat)
 case atStart=>exact⟨0,fun _=>⟨none,0,none,0,none,0⟩,Nat.zero_le _,rfl,(BelowS.refl _ _).alloc (Nat.le_refl _) (),(World.rowIs_wide _ _ _ _).congr (fun i hi=>by simp[fnZ]),fun i hi=>absurd hi (Nat.not_lt_zero _)⟩
 case round=>
  obtain⟨k,R,hk,rfl,hbw,hrow,hR⟩:=hrel;have HR:=hide hR;clear hR;by_cases hlt:k<l.length
  ·obtain⟨b,off,rfl,hb,hcc⟩:=(hs.keep hbw.1 hB).2 (by omega);have N:=hcc k hlt;obtain⟨hl1,hl2,hl3⟩:=unhide HEL k hlt;clear hcc;generalize hx:l[k]?.getD FnD.z=nd at *;have HX:=hide hx;clear hx;obtain⟨a4,c4,h4,H4⟩:=N.vars;obtain⟨a5,c5,h5,H5⟩:=N.ups;obtain⟨a6,c6,h6,H6⟩:=N.nodes;have c0:=N.name;have c1:=N.line;have c2:=N.params;have c3:=N.rest;have hBr:∀ b,S b->b<wr.heap.size:=fun b h=>Nat.lt_of_lt_of_le (hB b h) hbw.size;go_wp2_with fail
   refine(toFn_soft _ _ _ _ _ _ _ _ _ _ _ _ _ S _ H4 H5 H6 hBr hl1 hl2 hl3).mono ?_;rintro e w' ⟨a4',c4',a5',c5',a6',c6',rfl,hI4,hI5,hI6,hb'⟩;have hrow':=hrow.of_block (hb'.block _ hrow.lt);have hf0:=hrow'.frozen (k * 7);have hf1:=hrow'.frozen (k * 7+1);have hf2:=hrow'.frozen (k * 7+2);have hf3:=hrow'.frozen (k * 7+3);have hf4:=hrow'.frozen (k * 7+4);have hf5:=hrow'.frozen (k * 7+5);have hf6:=hrow'.frozen (k * 7+6);have hg0:=hrow'.cell (i:=k * 7) (by omega);have hg1:=hrow'.cell (i:=k * 7+1) (by omega);have hg2:=hrow'.cell (i:=k * 7+2) (by omega);have hg3:=hrow'.cell (i:=k * 7+3) (by omega);have hg4:=hrow'.cell (i:=k * 7+4) (by omega);have hg5:=hrow'.cell (i:=k * 7+5) (by omega);have hg6:=hrow'.cell (i:=k * 7+6) (by omega);clear c0 c1 c2 c3 h4 h5 h6;go_wp2_with fail
   go_roundw
   case rel=>
    clear hg0 hg1 hg2 hg3 hg4 hg5 hg6 hf0 hf1 hf2 hf3 hf4 hf5 hf6;have hG:w.heap.size<wr.heap.size:=hrow.lt;have hx:=unhide HX;refine⟨k+1,fun i=>if i=k then⟨a4',c4',a5',c5',a6',c6'⟩else R i,by omega,by go_num,belowS_put7 (hbw.trans (hb'.mono hbw.size)) _ _ (Nat.le_refl _) _ _ _ _ _ _ _,(rowIs_put7 hrow' k _ _ _ _ _ _ _).congr fun j hj=>?_,fun i hi=>?_⟩
    ·by_cases e:j / 7=k
     ·have e2:j / 7<k+1:=by omega
      simp only[e,if_true,hx,fnCell,Nat.lt_succ_self]
     ·have e2:(j / 7<k+1)=(j / 7<k):=by apply propext;omega
      simp only[e,if_false,e2]
    ·have hm:∀ W:World,W.heap.size=w'.heap.size->∀ b,New (w.heap.size+1) wr b->New (w.heap.size+1) W b:=fun W e b h=>⟨h.1,by have:=h.2;have:=hb'.size;omega⟩;have hm':∀ W:World,W.heap.size=w'.heap.size->∀ b,New wr.heap.size w' b->New (w.heap.size+1) W b:=fun W e b h=>⟨by have:=h.1;omega,by have:=h.2;omega⟩;have hng:¬New (w.heap.size+1) wr w.heap.size:=fun h=>by have:=h.1;omega
     have hng':¬New wr.heap.size w' w.heap.size:=fun h=>by have:=h.1;omega
     by_cases e:i=k
     ·subst e;simp only[if_true,hx];exact⟨(hI4.same (same_put7 Same.refl _ _ hng' _ _ _ _ _ _ _)).mono (hm' _ (size_put7 _ _ _ _ _ _ _ _ _ _)),(hI5.same (same_put7 Same.refl _ _ hng' _ _ _ _ _ _ _)).mono (hm' _ (size_put7 _ _ _ _ _ _ _ _ _ _)),(hI6.same (same_put7 Same.refl _ _ hng' _ _ _ _ _ _ _)).mono (hm' _ (size_put7 _ _ _ _ _ _ _ _ _ _))⟩
     ·simp only[e,if_false];obtain⟨h1,h2,h3⟩:=unhide HR i (by omega);have hsame:Same (New (w.heap.size+1) wr) wr w':=.of_below hb'.1 (fun b h=>h.2);exact⟨(h1.same (same_put7 hsame _ _ hng _ _ _ _ _ _ _)).mono (hm _ (size_put7 _ _ _ _ _ _ _ _ _ _)),(h2.same (same_put7 hsame _ _ hng _ _ _ _ _ _ _)).mono (hm _ (size_put7 _ _ _ _ _ _ _ _ _ _)),(h3.same (same_put7 hsame _ _ hng _ _ _ _ _ _ _)).mono (hm _ (size_put7 _ _ _ _ _ _ _ _ _ _))⟩
   case measure=>simp[intOf];omega
  ·have HK:Hid (k=l.length):=by show _=_;omega
   go_wp2_with fail
   go_ret;refine⟨_,_,rfl,?_,hbw⟩;have hkl:=HK.out;subst hkl;refine fns_of_row R hn ⟨Nat.le_refl _,hrow.lt⟩ hrow fun i hi=>?_;obtain⟨h1,h2,h3⟩:=unhide HR i hi;obtain⟨b,off,_,_,hcc⟩:=hs.2 (by omega);exact⟨(hcc i hi).names,h1.mono (fun b h=>⟨by have:=h.1;omega,h.2⟩),h2.mono (fun b h=>⟨by have:=h.1;omega,h.2⟩),h3.mono (fun b h=>⟨by have:=h.1;omega,h.2⟩)⟩
theorem toUnit_soft (a:Option Addr)(l:List FnD)(c:Nat)(S:Nat->Prop)(w:World)(hs:FnsAt w S a l)(hB:∀ b,S b->b<w.heap.size)(hl:tFns l<=1048576) :
  Calls Tryz.prog 6 #[.agg #[.slice a l.length c]] w fun e w'=>∃ a' c',e=.returned (.agg #[.slice a' l.length c'])/\FnsAt w' (New w.heap.size w') a' l/\BelowS w.heap.size w w':=by
 go_enter Tryz.func6,Tryz.ntmps6;go_wp2_with fail
 have hbA:BelowS w.heap.size w (((w.alloc (.cells #[.slice a l.length c] 24)).alloc (.cells #[.slice none 0 0] 30)).alloc (.cells #[.slice none 0 0] 30)):=by
  repeat (first | refine BelowS.alloc ?_ (by simp<;>omega) () | exact BelowS.refl _ _)
 refine(toFnS_soft _ _ _ S _ (hs.keep hbA.1 hB) (fun b h=>Nat.lt_of_lt_of_le (hB b h) hbA.size) hl).mono ?_;rintro e w1 ⟨a',c',rfl,hI,hb1⟩;have hbw1:BelowS w.heap.size w w1:=hbA.trans (hb1.mono hbA.size);obtain⟨hc,hf⟩:=bcellS hb1;have hz:w.heap.size+1+1+1<=w1.heap.size:=by have:=hb1.size;simpa using this
 have hz0:w.heap.size<w1.heap.size:=by omega
 have hz1:w.heap.size+1<w1.heap.size:=by omega
 have hz2:w.heap.size+1+1<w1.heap.size:=by omega
 replace hI:FnsAt w1 (New (w.heap.size+3) w1) a' l:=hI.mono (fun b h=>⟨by have:=h.1;simp at this;omega,h.2⟩)
 clear hb1;have p1:∀ W:World,¬New (w.heap.size+3) W (w.heap.size+1):=fun W h=>by have:=h.1;omega
 have p2:∀ W:World,¬New (w.heap.size+3) W (w.heap.size+1+1):=fun W h=>by have:=h.1;omega
 have b1:w.heap.size<=w.heap.size+1:=by omega
 have b2:w.heap.size<=w.heap.size+1+1:=by omega
 have m1:∀ W:World,W.heap.size=w1.heap.size->∀ b,New (w.heap.size+3) w1 b->New w.heap.size W b:=fun W e b h=>⟨by have:=h.1;omega,by have:=h.2;omega⟩;have M:=hide (And.intro (And.intro p1 p2) (And.intro (And.intro b1 b2) m1));clear p1 p2 b1 b2 m1;go_wp2_with fail
 obtain⟨⟨p1,p2⟩,⟨b1,b2⟩,m1⟩:=unhide M;refine bodyPost_ret (v:=.agg #[.slice a' l.length c']) (by simp[results,Tryz.results6,go_sem,hc]) rfl ⟨a',c',rfl,?_,?_⟩
 ·refine(hI.same ?_).mono (m1 _ (by simp));refine Same.setCell ?_ (p1 _) _;refine Same.setCell ?_ (p2 _) _;exact Same.refl
 ·refine BelowS.setCell ?_ b1 _;refine BelowS.setCell ?_ b2 _;exact hbw1
end Go.Proofs.YtofcbekoaghikaaGreatDoor

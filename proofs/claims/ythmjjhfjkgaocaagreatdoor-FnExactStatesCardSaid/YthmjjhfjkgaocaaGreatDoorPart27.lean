import Derived.Test.YthmjjhfjkgaocaaGreatDoorPart26
set_option linter.unusedSimpArgs false
set_option linter.unusedVariables false
set_option maxHeartbeats 6000000
set_option maxRecDepth 100000
namespace Go.Proofs.YthmjjhfjkgaocaaGreatDoor
open Go.RowKit
theorem guV_len (l:List GuD):(l.flatMap guV).length=l.length * 3:=by
 induction l with
 | nil=>rfl
 | cons a l ih=>rw[List.flatMap_cons,List.length_append,ih];simp[guV];omega
theorem guV_get (l:List GuD)(j i:Nat)(hj:j<l.length)(hi:i<3):(l.flatMap guV)[j * 3+i]? = (guV (l[j]?.getD GuD.z))[i]?:=by
 induction l generalizing j with
 | nil=>exact absurd hj (Nat.not_lt_zero _)
 | cons a l ih=>
  rw[List.flatMap_cons]
  cases j with
  | zero=>
   rw[List.getElem?_append_left (by simp[guV];omega)]
   simp
  | succ j=>
   rw[List.getElem?_append_right (by simp[guV];omega)]
   have e:(j+1) * 3+i-(guV a).length=j * 3+i:=by simp[guV];omega
   rw[e,ih j (by simpa using hj)]
   simp
theorem guV_take (l:List GuD)(m:Nat):(l.flatMap guV).take (m * 3)=(l.take m).flatMap guV:=by
 induction l generalizing m with
 | nil=>simp
 | cons a l ih=>
  cases m with
  | zero=>simp
  | succ m=>
   rw[List.take_succ_cons,List.flatMap_cons,List.flatMap_cons,←ih m,List.take_append]
   have e:(m+1) * 3-(guV a).length=m * 3:=by simp[guV];omega
   rw[e,List.take_of_length_le (by simp[guV];omega)]
theorem guV_set (l:List GuD)(j:Nat)(x:Int)(hj:j<l.length):(l.flatMap guV).set (j * 3+1) (.int .i64 x)=(l.set j { l[j]?.getD GuD.z with keep:=x }).flatMap guV:=by
 induction l generalizing j with
 | nil=>exact absurd hj (Nat.not_lt_zero _)
 | cons a l ih=>
  cases j with
  | zero=>simp[guV]
  | succ j=>
   rw[List.flatMap_cons,List.set_append_right _ _ (by simp[guV];omega)]
   have e:(j+1) * 3+1-(guV a).length=j * 3+1:=by simp[guV];omega
   rw[e,ih j (by simpa using hj)]
   simp
section
variable {w w':World} {base base':Nat} {v:Value} {t:List GuD}
theorem OwnG.lenV (h:OwnG w base v t):∃ a c,v=.slice a t.length c:=by
 rcases h.2 with⟨rfl,h0⟩ | ⟨g,cap,cur,rfl,_⟩
 ·rw[h0];exact⟨none,0,rfl⟩
 ·exact⟨_,_,rfl⟩
theorem OwnG.at (h:OwnG w base v t)(h0:0<t.length):∃ g cap,v=.slice (some ⟨g,0,none⟩) t.length cap∧base≤g∧g<w.heap.size∧t.length≤cap∧∀ j,j<t.length→GuCells w g (j * 3) (t[j]?.getD GuD.z):=by
 rcases h.2 with⟨_,h1⟩ | ⟨g,cap,cur,rfl,hb,hg,hle,h2⟩
 ·omega
 ·refine⟨g,cap,rfl,hb,(Array.getElem?_eq_some_iff.1 hg).1,hle,fun j hj=>?_⟩
  have h3:∀ i,i<3→w.cell? ⟨g,j * 3+i,none⟩=(guV (t[j]?.getD GuD.z))[i]?:=fun i hi=>by
   rw[World.ownsRow.cellAt h (j * 3+i) (by omega),guV_get t j i hj hi]
  exact⟨h3 0 (by omega),h3 1 (by omega),h3 2 (by omega)⟩
theorem OwnG.below (h:OwnG w base v t)(hb:Below w.heap.size w w'):OwnG w' base v t:=by
 refine⟨h.1,?_⟩
 rcases h.2 with hn | ⟨g,cap,cur,rfl,h1,hg,h2⟩
 ·exact .inl hn
 ·exact .inr ⟨g,cap,cur,rfl,h1,(hb.block g (Array.getElem?_eq_some_iff.1 hg).1).trans hg,h2⟩
theorem OwnG.base_le (h:OwnG w base v t)(hb:base'≤base):OwnG w base' v t:=by
 refine⟨h.1,?_⟩
 rcases h.2 with hn | ⟨g,cap,cur,rfl,h1,h2⟩
 ·exact .inl hn
 ·exact .inr ⟨g,cap,cur,rfl,Nat.le_trans hb h1,h2⟩
theorem OwnG.alloc (h:OwnG w base v t)(o:Obj):OwnG (w.alloc o) base v t:=World.ownsRow.alloc h o
theorem OwnG.take {g n cap:Nat}(h:OwnG w base (.slice (some ⟨g,0,none⟩) n cap) t)(hn:n=t.length)(m:Nat)(hm:m≤t.length):OwnG w base (.slice (some ⟨g,0,none⟩) m cap) (t.take m):=by
 subst hn
 have hl:(t.take m).length=m:=by simp;omega
 refine⟨by rw[guV_len,hl],?_⟩
 rcases h.2 with⟨h',_⟩ | ⟨g',cap',cur,h',hb,hg,hnc,hcm,hcs,htake⟩
 ·simp at h'
 ·simp only[Value.slice.injEq,Option.some.injEq,Addr.mk.injEq,and_true,true_and]at h'
  obtain⟨rfl,rfl⟩:=h'
  refine .inr ⟨g,cap,cur,by rw[hl],hb,hg,by omega,hcm,hcs,?_⟩
  rw[hl,←guV_take,←htake,List.take_take]
  congr 1
  omega
theorem OwnG.setKeep {g n cap:Nat}(h:OwnG w base (.slice (some ⟨g,0,none⟩) n cap) t)(hn:n=t.length)(j:Nat)(x:Int)(hj:j<t.length):OwnG (w.setCell ⟨g,j * 3+1,none⟩ (.int .i64 x)) base (.slice (some ⟨g,0,none⟩) n cap) (t.set j { t[j]?.getD GuD.z with keep:=x }):=by
 subst hn
 have h2:=(World.ownsRow.stored h (j * 3+1) (.int .i64 x)).1
 unfold OwnG
 rw[List.length_set,←guV_set t j x hj]
 exact h2
theorem OwnG.frozen {g n cap:Nat}(h:OwnG w base (.slice (some ⟨g,0,none⟩) n cap) t)(hn:n=t.length)(j:Nat):w.frozen? ⟨g,j,none⟩=false:=by
 subst hn
 exact World.ownsRow.frozenAt h j
end
def ChPost (n:InsD)(g:List GuD)(w:World)(e:Ending)(w':World):Prop:=
 ∃(v:Value) (r:Bool),e=.returned (.tuple #[v,.bool r])∧(r=true→∃ g',changeC n g=some g'∧OwnG w' w.heap.size v g')∧(r=false→changeC n g=none)∧Below w.heap.size w w'
theorem ch_no {n:InsD}{g:List GuD}{w w':World}{v:Value}(h:changeC n g=none)(hb:Below w.heap.size w w'):ChPost n g w (.returned (.tuple #[v,.bool false])) w':=⟨v,false,rfl,fun h=>Bool.noConfusion h,fun _=>h,hb⟩
theorem ch_yes {n:InsD}{g g':List GuD}{w w':World}{v:Value}(h:changeC n g=some g')(ho:OwnG w' w.heap.size v g')(hb:Below w.heap.size w w'):ChPost n g w (.returned (.tuple #[v,.bool true])) w':=⟨v,true,rfl,fun _=>⟨g',h,ho⟩,fun h=>Bool.noConfusion h,hb⟩
theorem ch_open {w w1:World}{op fa fb fc fd:Int}{g:List GuD}{v1:Value}(ho:OwnG w1 (w.alloc (.cells #[.int .i64 op,.int .i64 fa,.int .i64 fb,.int .i64 fc,.int .i64 fd] 78)).heap.size v1 g)(hb1:Below (w.alloc (.cells #[.int .i64 op,.int .i64 fa,.int .i64 fb,.int .i64 fc,.int .i64 fd] 78)).heap.size (w.alloc (.cells #[.int .i64 op,.int .i64 fa,.int .i64 fb,.int .i64 fc,.int .i64 fd] 78)) w1) :
  w.heap.size<w1.heap.size∧w1.cell? ⟨w.heap.size,0,none⟩=some (.int .i64 op)∧w1.cell? ⟨w.heap.size,1,none⟩=some (.int .i64 fa)∧w1.cell? ⟨w.heap.size,2,none⟩=some (.int .i64 fb)∧Hid (Below w.heap.size w w1)∧Hid (OwnG w1 (w.heap.size+1) v1 g)∧∃ av cv,v1=.slice av g.length cv:=by
 obtain⟨hc1,hf1⟩:=bcell hb1
 refine⟨by have:=hb1.size;simp at this;omega,by rw[hc1 _ _ (by simp)];simp[go_sem],by rw[hc1 _ _ (by simp)];simp[go_sem],by rw[hc1 _ _ (by simp)];simp[go_sem],((Below.refl _ _).alloc (Nat.le_refl _) _).trans (hb1.mono (by simp)),?_,ho.lenV⟩
 have h:=ho
 rw[show ∀ o,(w.alloc o).heap.size=w.heap.size+1 from fun _=>by simp]at h
 exact h
theorem l6change_31 (fa fb fc fd:Int)(g:List GuD)(a:Option Addr)(c:Nat)(S:Nat→Prop)(w:World)(hs:GusAt w S a g)(hB:∀ b,S b→b<w.heap.size)(hl:g.length≤50) :
  Calls Tryz.prog 34 #[.agg #[.int .i64 31,.int .i64 fa,.int .i64 fb,.int .i64 fc,.int .i64 fd],.slice a g.length c] w (ChPost ⟨31,fa,fb,fc,fd⟩ g w):=by
 have hn:=hs.1
 obtain⟨i0,hi,hz0,hz1,hz2⟩:=info_of info_gu
 have HS:=hide hs;have HB:=hide hB
 have hA:∀ o,Below w.heap.size w (w.alloc o):=fun o=>(Below.refl _ _).alloc (Nat.le_refl _) o
 have LG:=hide (fun W (hW:Below w.heap.size w W)=>l6guards_any a g c S W (hs.keep hW hB) (fun b h=>Nat.lt_of_lt_of_le (hB b h) hW.size) (by omega))
 have LA:=hide (fun W (hW:Below w.heap.size w W) (keep:Int)=>l6above_any a g c keep S W (hs.keep hW hB) (fun b h=>Nat.lt_of_lt_of_le (hB b h) hW.size))
 clear hs hB
 have GE:changeC ⟨31,fa,fb,fc,fd⟩ g=if g.length<50∧aboveC g fb=true then some (g++[⟨true,fb,fa⟩])else none:=rfl
 have GY:Hid (g.length<50→aboveC g fb=true→changeC ⟨31,fa,fb,fc,fd⟩ g=some (g++[⟨true,fb,fa⟩])):=fun h1 h2=>by rw[GE,if_pos ⟨h1,h2⟩]
 have GN:Hid (¬(g.length<50∧aboveC g fb=true)→changeC ⟨31,fa,fb,fc,fd⟩ g=none):=fun h=>by rw[GE,if_neg h]
 clear GE
 go_enter Tryz.func34,Tryz.ntmps34
 go_wp2_with fail
 refine(unhide LG _ (hA _)).mono ?_
 rintro e w1 ⟨v1,rfl,ho1,hb1⟩
 obtain⟨hs1,j0,j1,j2,HB1,HO1,av,cv,rfl⟩:=ch_open ho1 hb1
 clear hb1 ho1
 go_wp2_with (first
  | (at_builtin;refine wpList_append_own _ rfl _ _ 60 rfl (w.heap.size+1) 108 i0 (.agg #[.bool false,.int .i64 0,.int .i64 0]) 3 24 Tryz.underlying60 hi hz0 hz1 hz2 rfl (by decide) _ _ _ rfl ((unhide HO1).alloc _) ⟨w1.heap.size,0,none⟩ 1 1 [.bool true,.int .i64 fb,.int .i64 fa] rfl rfl ?c1 ?c2 ?c3 ?c4 ?c5 ?_)
  | go_in)
 all_goals try (case c1=>
  intro j u hj
  match j,hj with
  | 0,hj=>simp at hj;subst hj;simp[Addr.add,go_sem]
  | 1,hj=>simp at hj;subst hj;simp[Addr.add,go_sem]
  | 2,hj=>simp at hj;subst hj;simp[Addr.add,go_sem]
  | n+3,hj=>simp at hj)
 case c2=>first | (intro u hu;simp at hu;rcases hu with rfl | rfl | rfl<;>rfl) | (simp;done) | rfl
 case c3=>unfold maxLen;omega
 case c4=>omega
 case c5=>simp;omega
 intro v2 w2 hown2 hgrow2 _
 have HO2:Hid (OwnG w2 w.heap.size v2 (g++[⟨true,fb,fa⟩])):=(OwnG.push hown2).base_le (by omega)
 have HB2:Hid (Below w.heap.size w w2):=((unhide HB1).alloc (by omega) _).grown hgrow2 (by simp;omega) (fun j hj=>by have:=((unhide HO1).lt j hj).1;omega)
 have hs2:=hgrow2.size
 have hs2':w.heap.size<w2.heap.size:=by simp at hs2;omega
 have hne:some w.heap.size≠(Value.slice av g.length cv).ownBlock:=fun e=>by have:=((unhide HO1).lt _ e.symm).1;omega
 have k1:w2.cell? ⟨w.heap.size,1,none⟩=some (.int .i64 fa):=hgrow2.cell ((World.cell?_alloc_past _ _ _ (by omega)).trans j1) hne
 have k2:w2.cell? ⟨w.heap.size,2,none⟩=some (.int .i64 fb):=hgrow2.cell ((World.cell?_alloc_past _ _ _ (by omega)).trans j2) hne
 clear hown2 hgrow2 hne j0 j1 j2
 by_cases h50:g.length<50
 case neg=>
  have RR:=hide (unhide GN (fun h=>h50 h.1))
  have x1:decide ((g.length:Int)<50)=false:=decide_eq_false (by omega)
  have x1n:decide (g.length<50)=false:=decide_eq_false h50
  go_wp2_with fail
  go_ret2
  exact ch_no RR.out (unhide HB2)
 have x1:decide ((g.length:Int)<50)=true:=decide_eq_true (by omega)
 have x1n:decide (g.length<50)=true:=decide_eq_true h50
 go_wp2_with fail
 refine(unhide LA _ (unhide HB2) _).mono ?_
 rintro e w3 ⟨rfl,hb3⟩
 have HB3:=hide ((unhide HB2).trans (hb3.mono (by omega)))
 have HO3:=hide ((unhide HO2).below hb3)
 clear hb3
 cases hab:aboveC g fb
 ·have RR:=hide (unhide GN (fun h=>by rw[hab]at h;exact Bool.noConfusion h.2))
  clear hab
  go_wp2_with fail
  go_ret2
  exact ch_no RR.out (unhide HB3)
 ·have RR:=hide (unhide GY h50 hab)
  clear hab
  go_wp2_with fail
  go_ret2
  exact ch_yes RR.out (unhide HO3) (unhide HB3)
theorem l6change_33 (fa fb fc fd:Int)(g:List GuD)(a:Option Addr)(c:Nat)(S:Nat→Prop)(w:World)(hs:GusAt w S a g)(hB:∀ b,S b→b<w.heap.size)(hl:g.length≤50) :
  Calls Tryz.prog 34 #[.agg #[.int .i64 33,.int .i64 fa,.int .i64 fb,.int .i64 fc,.int .i64 fd],.slice a g.length c] w (ChPost ⟨33,fa,fb,fc,fd⟩ g w):=by
 have hn:=hs.1
 obtain⟨i0,hi,hz0,hz1,hz2⟩:=info_of info_gu
 have HS:=hide hs;have HB:=hide hB
 have hA:∀ o,Below w.heap.size w (w.alloc o):=fun o=>(Below.refl _ _).alloc (Nat.le_refl _) o
 have LG:=hide (fun W (hW:Below w.heap.size w W)=>l6guards_any a g c S W (hs.keep hW hB) (fun b h=>Nat.lt_of_lt_of_le (hB b h) hW.size) (by omega))
 have LA:=hide (fun W (hW:Below w.heap.size w W) (keep:Int)=>l6above_any a g c keep S W (hs.keep hW hB) (fun b h=>Nat.lt_of_lt_of_le (hB b h) hW.size))
 clear hs hB
 have GE:changeC ⟨33,fa,fb,fc,fd⟩ g=if g.length<50∧aboveC g fa=true then some (g++[⟨false,fa,0⟩])else none:=rfl
 have GY:Hid (g.length<50→aboveC g fa=true→changeC ⟨33,fa,fb,fc,fd⟩ g=some (g++[⟨false,fa,0⟩])):=fun h1 h2=>by rw[GE,if_pos ⟨h1,h2⟩]
 have GN:Hid (¬(g.length<50∧aboveC g fa=true)→changeC ⟨33,fa,fb,fc,fd⟩ g=none):=fun h=>by rw[GE,if_neg h]
 clear GE
 go_enter Tryz.func34,Tryz.ntmps34
 go_wp2_with fail
 refine(unhide LG _ (hA _)).mono ?_
 rintro e w1 ⟨v1,rfl,ho1,hb1⟩
 obtain⟨hs1,j0,j1,j2,HB1,HO1,av,cv,rfl⟩:=ch_open ho1 hb1
 clear hb1 ho1
 go_wp2_with (first
  | (at_builtin;refine wpList_append_own _ rfl _ _ 60 rfl (w.heap.size+1) 108 i0 (.agg #[.bool false,.int .i64 0,.int .i64 0]) 3 24 Tryz.underlying60 hi hz0 hz1 hz2 rfl (by decide) _ _ _ rfl ((unhide HO1).alloc _) ⟨w1.heap.size,0,none⟩ 1 1 [.bool false,.int .i64 fa,.int .i64 0] rfl rfl ?c1 ?c2 ?c3 ?c4 ?c5 ?_)
  | go_in)
 all_goals try (case c1=>
  intro j u hj
  match j,hj with
  | 0,hj=>simp at hj;subst hj;simp[Addr.add,go_sem]
  | 1,hj=>simp at hj;subst hj;simp[Addr.add,go_sem]
  | 2,hj=>simp at hj;subst hj;simp[Addr.add,go_sem]
  | n+3,hj=>simp at hj)
 case c2=>first | (intro u hu;simp at hu;rcases hu with rfl | rfl | rfl<;>rfl) | (simp;done) | rfl
 case c3=>unfold maxLen;omega
 case c4=>omega
 case c5=>simp;omega
 intro v2 w2 hown2 hgrow2 _
 have HO2:Hid (OwnG w2 w.heap.size v2 (g++[⟨false,fa,0⟩])):=(OwnG.push hown2).base_le (by omega)
 have HB2:Hid (Below w.heap.size w w2):=((unhide HB1).alloc (by omega) _).grown hgrow2 (by simp;omega) (fun j hj=>by have:=((unhide HO1).lt j hj).1;omega)
 have hs2:=hgrow2.size
 have hs2':w.heap.size<w2.heap.size:=by simp at hs2;omega
 have hne:some w.heap.size≠(Value.slice av g.length cv).ownBlock:=fun e=>by have:=((unhide HO1).lt _ e.symm).1;omega
 have k1:w2.cell? ⟨w.heap.size,1,none⟩=some (.int .i64 fa):=hgrow2.cell ((World.cell?_alloc_past _ _ _ (by omega)).trans j1) hne
 have k2:w2.cell? ⟨w.heap.size,2,none⟩=some (.int .i64 fb):=hgrow2.cell ((World.cell?_alloc_past _ _ _ (by omega)).trans j2) hne
 clear hown2 hgrow2 hne j0 j1 j2
 by_cases h50:g.length<50
 case neg=>
  have RR:=hide (unhide GN (fun h=>h50 h.1))
  have x1:decide ((g.length:Int)<50)=false:=decide_eq_false (by omega)
  have x1n:decide (g.length<50)=false:=decide_eq_false h50
  go_wp2_with fail
  go_ret2
  exact ch_no RR.out (unhide HB2)
 have x1:decide ((g.length:Int)<50)=true:=decide_eq_true (by omega)
 have x1n:decide (g.length<50)=true:=decide_eq_true h50
 go_wp2_with fail
 refine(unhide LA _ (unhide HB2) _).mono ?_
 rintro e w3 ⟨rfl,hb3⟩
 have HB3:=hide ((unhide HB2).trans (hb3.mono (by omega)))
 have HO3:=hide ((unhide HO2).below hb3)
 clear hb3
 cases hab:aboveC g fa
 ·have RR:=hide (unhide GN (fun h=>by rw[hab]at h;exact Bool.noConfusion h.2))
  clear hab
  go_wp2_with fail
  go_ret2
  exact ch_no RR.out (unhide HB3)
 ·have RR:=hide (unhide GY h50 hab)
  clear hab
  go_wp2_with fail
  go_ret2
  exact ch_yes RR.out (unhide HO3) (unhide HB3)
theorem l6change_32 (fa fb fc fd:Int)(g:List GuD)(a:Option Addr)(c:Nat)(S:Nat→Prop)(w:World)(hs:GusAt w S a g)(hB:∀ b,S b→b<w.heap.size)(hl:g.length≤50) :
  Calls Tryz.prog 34 #[.agg #[.int .i64 32,.int .i64 fa,.int .i64 fb,.int .i64 fc,.int .i64 fd],.slice a g.length c] w (ChPost ⟨32,fa,fb,fc,fd⟩ g w):=by
 have hn:=hs.1
 obtain⟨i0,hi,hz0,hz1,hz2⟩:=info_of info_gu
 have HS:=hide hs;have HB:=hide hB
 have hA:∀ o,Below w.heap.size w (w.alloc o):=fun o=>(Below.refl _ _).alloc (Nat.le_refl _) o
 have LG:=hide (fun W (hW:Below w.heap.size w W)=>l6guards_any a g c S W (hs.keep hW hB) (fun b h=>Nat.lt_of_lt_of_le (hB b h) hW.size) (by omega))
 have LA:=hide (fun W (hW:Below w.heap.size w W) (keep:Int)=>l6above_any a g c keep S W (hs.keep hW hB) (fun b h=>Nat.lt_of_lt_of_le (hB b h) hW.size))
 clear hs hB
 have GE:changeC ⟨32,fa,fb,fc,fd⟩ g=if g.length=0∨(g[g.length-1]?.getD GuD.z).tr=false then none else some (g.take (g.length-1)):=rfl
 by_cases h0:0<g.length
 case neg=>
  have RR:Hid (changeC ⟨32,fa,fb,fc,fd⟩ g=none):=by show _=_;rw[GE,if_pos (.inl (by omega))]
  have x1:((g.length:Int)==0)=true:=by rw[show g.length=0 from by omega];rfl
  clear GE
  go_enter Tryz.func34,Tryz.ntmps34
  go_wp2_with fail
  refine(unhide LG _ (hA _)).mono ?_
  rintro e w1 ⟨v1,rfl,ho1,hb1⟩
  obtain⟨hs1,j0,j1,j2,HB1,HO1,av,cv,rfl⟩:=ch_open ho1 hb1
  clear hb1 ho1
  go_wp2_with fail
  go_ret2
  exact ch_no RR.out (unhide HB1)
 have x1:((g.length:Int)==0)=false:=beq_eq_false_iff_ne.2 (by omega)
 cases ht:(g[g.length-1]?.getD GuD.z).tr
 ·have RR:Hid (changeC ⟨32,fa,fb,fc,fd⟩ g=none):=by show _=_;rw[GE,if_pos (.inr ht)]
  clear GE
  go_enter Tryz.func34,Tryz.ntmps34
  go_wp2_with fail
  refine(unhide LG _ (hA _)).mono ?_
  rintro e w1 ⟨v1,rfl,ho1,hb1⟩
  obtain⟨hs1,j0,j1,j2,HB1,HO1,-⟩:=ch_open ho1 hb1
  clear hb1 ho1
  obtain⟨gb,cap,hv,hgb,hgl,hcap,hcc⟩:=(unhide HO1).at h0
  have hl:=hcc (g.length-1) (by omega)
  clear hcc
  subst hv
  have r0:=hl.tr;have r1:=hl.keep;have r2:=hl.hand
  have z1:=(unhide HO1).frozen rfl ((g.length-1) * 3+1)
  clear hl
  obtain⟨m,hm⟩:∃ m,g.length=m+1:=⟨g.length-1,by omega⟩
  have hm1:g.length-1=m:=by omega
  rw[hm1]at r0 r1 r2 z1
  rw[hm1]at ht
  rw[ht]at r0
  clear ht
  go_wp2_with fail
  go_ret2
  exact ch_no RR.out (unhide HB1)
 ·skip
  have RR:Hid (changeC ⟨32,fa,fb,fc,fd⟩ g=some (g.take (g.length-1))):=by show _=_;rw[GE,if_neg (by rintro(h | h);omega;rw[ht]at h;exact Bool.noConfusion h)]
  clear GE
  go_enter Tryz.func34,Tryz.ntmps34
  go_wp2_with fail
  refine(unhide LG _ (hA _)).mono ?_
  rintro e w1 ⟨v1,rfl,ho1,hb1⟩
  obtain⟨hs1,j0,j1,j2,HB1,HO1,-⟩:=ch_open ho1 hb1
  clear hb1 ho1
  obtain⟨gb,cap,hv,hgb,hgl,hcap,hcc⟩:=(unhide HO1).at h0
  have hl:=hcc (g.length-1) (by omega)
  clear hcc
  subst hv
  have r0:=hl.tr;have r1:=hl.keep;have r2:=hl.hand
  have z1:=(unhide HO1).frozen rfl ((g.length-1) * 3+1)
  clear hl
  obtain⟨m,hm⟩:∃ m,g.length=m+1:=⟨g.length-1,by omega⟩
  have hm1:g.length-1=m:=by omega
  rw[hm1]at r0 r1 r2 z1
  rw[hm1]at ht RR
  rw[ht]at r0
  clear ht
  go_wp2_with fail
  go_ret2
  exact ch_yes RR.out (((unhide HO1).take rfl m (by omega)).base_le (base':=w.heap.size) (by omega)) (unhide HB1)
theorem l6change_34 (fa fb fc fd:Int)(g:List GuD)(a:Option Addr)(c:Nat)(S:Nat→Prop)(w:World)(hs:GusAt w S a g)(hB:∀ b,S b→b<w.heap.size)(hl:g.length≤50) :
  Calls Tryz.prog 34 #[.agg #[.int .i64 34,.int .i64 fa,.int .i64 fb,.int .i64 fc,.int .i64 fd],.slice a g.length c] w (ChPost ⟨34,fa,fb,fc,fd⟩ g w):=by
 have hn:=hs.1
 obtain⟨i0,hi,hz0,hz1,hz2⟩:=info_of info_gu
 have HS:=hide hs;have HB:=hide hB
 have hA:∀ o,Below w.heap.size w (w.alloc o):=fun o=>(Below.refl _ _).alloc (Nat.le_refl _) o
 have LG:=hide (fun W (hW:Below w.heap.size w W)=>l6guards_any a g c S W (hs.keep hW hB) (fun b h=>Nat.lt_of_lt_of_le (hB b h) hW.size) (by omega))
 have LA:=hide (fun W (hW:Below w.heap.size w W) (keep:Int)=>l6above_any a g c keep S W (hs.keep hW hB) (fun b h=>Nat.lt_of_lt_of_le (hB b h) hW.size))
 clear hs hB
 have GE:changeC ⟨34,fa,fb,fc,fd⟩ g=if g.length=0∨(g[g.length-1]?.getD GuD.z).tr=true∨((34:Int)=34∧aboveC g fa=false)then none else some (g.set (g.length-1) { g[g.length-1]?.getD GuD.z with keep:=fa }):=rfl
 by_cases h0:0<g.length
 case neg=>
  have RR:Hid (changeC ⟨34,fa,fb,fc,fd⟩ g=none):=by show _=_;rw[GE,if_pos (.inl (by omega))]
  have x1:((g.length:Int)==0)=true:=by rw[show g.length=0 from by omega];rfl
  clear GE
  go_enter Tryz.func34,Tryz.ntmps34
  go_wp2_with fail
  refine(unhide LG _ (hA _)).mono ?_
  rintro e w1 ⟨v1,rfl,ho1,hb1⟩
  obtain⟨hs1,j0,j1,j2,HB1,HO1,av,cv,rfl⟩:=ch_open ho1 hb1
  clear hb1 ho1
  go_wp2_with fail
  go_ret2
  exact ch_no RR.out (unhide HB1)
 have x1:((g.length:Int)==0)=false:=beq_eq_false_iff_ne.2 (by omega)
 cases ht:(g[g.length-1]?.getD GuD.z).tr
 ·skip
  cases hab:aboveC g fa
  ·have RR:Hid (changeC ⟨34,fa,fb,fc,fd⟩ g=none):=by show _=_;rw[GE,if_pos (.inr (.inr ⟨rfl,hab⟩))]
   have HAB:=hide hab
   clear GE hab
   go_enter Tryz.func34,Tryz.ntmps34
   go_wp2_with fail
   refine(unhide LG _ (hA _)).mono ?_
   rintro e w1 ⟨v1,rfl,ho1,hb1⟩
   obtain⟨hs1,j0,j1,j2,HB1,HO1,-⟩:=ch_open ho1 hb1
   clear hb1 ho1
   obtain⟨gb,cap,hv,hgb,hgl,hcap,hcc⟩:=(unhide HO1).at h0
   have hl:=hcc (g.length-1) (by omega)
   clear hcc
   subst hv
   have r0:=hl.tr;have r1:=hl.keep;have r2:=hl.hand
   have z1:=(unhide HO1).frozen rfl ((g.length-1) * 3+1)
   clear hl
   obtain⟨m,hm⟩:∃ m,g.length=m+1:=⟨g.length-1,by omega⟩
   have hm1:g.length-1=m:=by omega
   rw[hm1]at r0 r1 r2 z1
   rw[hm1]at ht
   rw[ht]at r0
   rw[hm]at LA
   clear ht
   go_wp2_with fail
   refine(unhide LA _ (unhide HB1) _).mono ?_
   rintro e w3 ⟨rfl,hb3⟩
   rw[HAB.out]
   have HB3:=hide ((unhide HB1).trans (hb3.mono (by omega)))
   clear hb3
   go_wp2_with fail
   go_ret2
   exact ch_no RR.out (unhide HB3)
  ·have RR:Hid (changeC ⟨34,fa,fb,fc,fd⟩ g=some (g.set (g.length-1) { g[g.length-1]?.getD GuD.z with keep:=fa })):=by show _=_;rw[GE,if_neg (by rintro(h | h | h);omega;rw[ht]at h;exact Bool.noConfusion h;rw[hab]at h;exact Bool.noConfusion h.2)]
   have HAB:=hide hab
   clear GE hab
   go_enter Tryz.func34,Tryz.ntmps34
   go_wp2_with fail
   refine(unhide LG _ (hA _)).mono ?_
   rintro e w1 ⟨v1,rfl,ho1,hb1⟩
   obtain⟨hs1,j0,j1,j2,HB1,HO1,-⟩:=ch_open ho1 hb1
   clear hb1 ho1
   obtain⟨gb,cap,hv,hgb,hgl,hcap,hcc⟩:=(unhide HO1).at h0
   have hl:=hcc (g.length-1) (by omega)
   clear hcc
   subst hv
   have r0:=hl.tr;have r1:=hl.keep;have r2:=hl.hand
   have z1:=(unhide HO1).frozen rfl ((g.length-1) * 3+1)
   clear hl
   obtain⟨m,hm⟩:∃ m,g.length=m+1:=⟨g.length-1,by omega⟩
   have hm1:g.length-1=m:=by omega
   rw[hm1]at r0 r1 r2 z1
   rw[hm1]at ht RR
   rw[ht]at r0
   rw[hm]at LA
   clear ht
   go_wp2_with fail
   refine(unhide LA _ (unhide HB1) _).mono ?_
   rintro e w3 ⟨rfl,hb3⟩
   rw[HAB.out]
   have HB3:=hide ((unhide HB1).trans (hb3.mono (by omega)))
   have HO3:=hide (((unhide HO1).below hb3).setKeep rfl m fa (by omega))
   obtain⟨hc3,hf3⟩:=bcell hb3
   have q0:=(hc3 _ _ (by omega:gb<w1.heap.size)).trans r1
   have qz:=(hf3 _ _ (by omega:gb<w1.heap.size)).trans z1
   have qo:=(hc3 _ _ (by omega:w.heap.size<w1.heap.size)).trans j0
   have qa:=(hc3 _ _ (by omega:w.heap.size<w1.heap.size)).trans j1
   have hs3:=hb3.size
   have hg3:gb<w3.heap.size:=by omega
   have hw3:w.heap.size<w3.heap.size:=by omega
   clear hb3 hc3 hf3
   go_wp2_with fail
   go_ret2
   exact ch_yes RR.out (by have h:=(unhide HO3).base_le (base':=w.heap.size) (by omega);rw[hm]at h;exact h) ((unhide HB3).setCell (by show w.heap.size≤gb;omega) _)
 ·have RR:Hid (changeC ⟨34,fa,fb,fc,fd⟩ g=none):=by show _=_;rw[GE,if_pos (.inr (.inl ht))]
  clear GE
  go_enter Tryz.func34,Tryz.ntmps34
  go_wp2_with fail
  refine(unhide LG _ (hA _)).mono ?_
  rintro e w1 ⟨v1,rfl,ho1,hb1⟩
  obtain⟨hs1,j0,j1,j2,HB1,HO1,-⟩:=ch_open ho1 hb1
  clear hb1 ho1
  obtain⟨gb,cap,hv,hgb,hgl,hcap,hcc⟩:=(unhide HO1).at h0
  have hl:=hcc (g.length-1) (by omega)
  clear hcc
  subst hv
  have r0:=hl.tr;have r1:=hl.keep;have r2:=hl.hand
  have z1:=(unhide HO1).frozen rfl ((g.length-1) * 3+1)
  clear hl
  obtain⟨m,hm⟩:∃ m,g.length=m+1:=⟨g.length-1,by omega⟩
  have hm1:g.length-1=m:=by omega
  rw[hm1]at r0 r1 r2 z1
  rw[hm1]at ht
  rw[ht]at r0
  clear ht
  go_wp2_with fail
  go_ret2
  exact ch_no RR.out (unhide HB1)
theorem l6change_35 (fa fb fc fd:Int)(g:List GuD)(a:Option Addr)(c:Nat)(S:Nat→Prop)(w:World)(hs:GusAt w S a g)(hB:∀ b,S b→b<w.heap.size)(hl:g.length≤50) :
  Calls Tryz.prog 34 #[.agg #[.int .i64 35,.int .i64 fa,.int .i64 fb,.int .i64 fc,.int .i64 fd],.slice a g.length c] w (ChPost ⟨35,fa,fb,fc,fd⟩ g w):=by
 have hn:=hs.1
 obtain⟨i0,hi,hz0,hz1,hz2⟩:=info_of info_gu
 have HS:=hide hs;have HB:=hide hB
 have hA:∀ o,Below w.heap.size w (w.alloc o):=fun o=>(Below.refl _ _).alloc (Nat.le_refl _) o
 have LG:=hide (fun W (hW:Below w.heap.size w W)=>l6guards_any a g c S W (hs.keep hW hB) (fun b h=>Nat.lt_of_lt_of_le (hB b h) hW.size) (by omega))
 have LA:=hide (fun W (hW:Below w.heap.size w W) (keep:Int)=>l6above_any a g c keep S W (hs.keep hW hB) (fun b h=>Nat.lt_of_lt_of_le (hB b h) hW.size))
 clear hs hB
 have GE:changeC ⟨35,fa,fb,fc,fd⟩ g=if g.length=0∨(g[g.length-1]?.getD GuD.z).tr=true∨((35:Int)=34∧aboveC g fa=false)then none else some g:=rfl
 by_cases h0:0<g.length
 case neg=>
  have RR:Hid (changeC ⟨35,fa,fb,fc,fd⟩ g=none):=by show _=_;rw[GE,if_pos (.inl (by omega))]
  have x1:((g.length:Int)==0)=true:=by rw[show g.length=0 from by omega];rfl
  clear GE
  go_enter Tryz.func34,Tryz.ntmps34
  go_wp2_with fail
  refine(unhide LG _ (hA _)).mono ?_
  rintro e w1 ⟨v1,rfl,ho1,hb1⟩
  obtain⟨hs1,j0,j1,j2,HB1,HO1,av,cv,rfl⟩:=ch_open ho1 hb1
  clear hb1 ho1
  go_wp2_with fail
  go_ret2
  exact ch_no RR.out (unhide HB1)
 have x1:((g.length:Int)==0)=false:=beq_eq_false_iff_ne.2 (by omega)
 cases ht:(g[g.length-1]?.getD GuD.z).tr
 ·skip
  have RR:Hid (changeC ⟨35,fa,fb,fc,fd⟩ g=some g):=by show _=_;rw[GE,if_neg (by rintro(h | h | h);omega;rw[ht]at h;exact Bool.noConfusion h;exact absurd h.1 (by decide))]
  clear GE
  go_enter Tryz.func34,Tryz.ntmps34
  go_wp2_with fail
  refine(unhide LG _ (hA _)).mono ?_
  rintro e w1 ⟨v1,rfl,ho1,hb1⟩
  obtain⟨hs1,j0,j1,j2,HB1,HO1,-⟩:=ch_open ho1 hb1
  clear hb1 ho1
  obtain⟨gb,cap,hv,hgb,hgl,hcap,hcc⟩:=(unhide HO1).at h0
  have hl:=hcc (g.length-1) (by omega)
  clear hcc
  subst hv
  have r0:=hl.tr;have r1:=hl.keep;have r2:=hl.hand
  have z1:=(unhide HO1).frozen rfl ((g.length-1) * 3+1)
  clear hl
  obtain⟨m,hm⟩:∃ m,g.length=m+1:=⟨g.length-1,by omega⟩
  have hm1:g.length-1=m:=by omega
  rw[hm1]at r0 r1 r2 z1
  rw[hm1]at ht
  rw[ht]at r0
  clear ht
  go_wp2_with fail
  go_ret2
  exact ch_yes RR.out (by have h:=(unhide HO1).base_le (base':=w.heap.size) (by omega);rw[hm]at h;exact h) (unhide HB1)
 ·have RR:Hid (changeC ⟨35,fa,fb,fc,fd⟩ g=none):=by show _=_;rw[GE,if_pos (.inr (.inl ht))]
  clear GE
  go_enter Tryz.func34,Tryz.ntmps34
  go_wp2_with fail
  refine(unhide LG _ (hA _)).mono ?_
  rintro e w1 ⟨v1,rfl,ho1,hb1⟩
  obtain⟨hs1,j0,j1,j2,HB1,HO1,-⟩:=ch_open ho1 hb1
  clear hb1 ho1
  obtain⟨gb,cap,hv,hgb,hgl,hcap,hcc⟩:=(unhide HO1).at h0
  have hl:=hcc (g.length-1) (by omega)
  clear hcc
  subst hv
  have r0:=hl.tr;have r1:=hl.keep;have r2:=hl.hand
  have z1:=(unhide HO1).frozen rfl ((g.length-1) * 3+1)
  clear hl
  obtain⟨m,hm⟩:∃ m,g.length=m+1:=⟨g.length-1,by omega⟩
  have hm1:g.length-1=m:=by omega
  rw[hm1]at r0 r1 r2 z1
  rw[hm1]at ht
  rw[ht]at r0
  clear ht
  go_wp2_with fail
  go_ret2
  exact ch_no RR.out (unhide HB1)
theorem l6change_36 (fa fb fc fd:Int)(g:List GuD)(a:Option Addr)(c:Nat)(S:Nat→Prop)(w:World)(hs:GusAt w S a g)(hB:∀ b,S b→b<w.heap.size)(hl:g.length≤50) :
  Calls Tryz.prog 34 #[.agg #[.int .i64 36,.int .i64 fa,.int .i64 fb,.int .i64 fc,.int .i64 fd],.slice a g.length c] w (ChPost ⟨36,fa,fb,fc,fd⟩ g w):=by
 have hn:=hs.1
 obtain⟨i0,hi,hz0,hz1,hz2⟩:=info_of info_gu
 have HS:=hide hs;have HB:=hide hB
 have hA:∀ o,Below w.heap.size w (w.alloc o):=fun o=>(Below.refl _ _).alloc (Nat.le_refl _) o
 have LG:=hide (fun W (hW:Below w.heap.size w W)=>l6guards_any a g c S W (hs.keep hW hB) (fun b h=>Nat.lt_of_lt_of_le (hB b h) hW.size) (by omega))
 have LA:=hide (fun W (hW:Below w.heap.size w W) (keep:Int)=>l6above_any a g c keep S W (hs.keep hW hB) (fun b h=>Nat.lt_of_lt_of_le (hB b h) hW.size))
 clear hs hB
 have GE:changeC ⟨36,fa,fb,fc,fd⟩ g=if g.length=0∨(g[g.length-1]?.getD GuD.z).tr=true∨((36:Int)=34∧aboveC g fa=false)then none else some (g.take (g.length-1)):=rfl
 by_cases h0:0<g.length
 case neg=>
  have RR:Hid (changeC ⟨36,fa,fb,fc,fd⟩ g=none):=by show _=_;rw[GE,if_pos (.inl (by omega))]
  have x1:((g.length:Int)==0)=true:=by rw[show g.length=0 from by omega];rfl
  clear GE
  go_enter Tryz.func34,Tryz.ntmps34
  go_wp2_with fail
  refine(unhide LG _ (hA _)).mono ?_
  rintro e w1 ⟨v1,rfl,ho1,hb1⟩
  obtain⟨hs1,j0,j1,j2,HB1,HO1,av,cv,rfl⟩:=ch_open ho1 hb1
  clear hb1 ho1
  go_wp2_with fail
  go_ret2
  exact ch_no RR.out (unhide HB1)
 have x1:((g.length:Int)==0)=false:=beq_eq_false_iff_ne.2 (by omega)
 cases ht:(g[g.length-1]?.getD GuD.z).tr
 ·skip
  have RR:Hid (changeC ⟨36,fa,fb,fc,fd⟩ g=some (g.take (g.length-1))):=by show _=_;rw[GE,if_neg (by rintro(h | h | h);omega;rw[ht]at h;exact Bool.noConfusion h;exact absurd h.1 (by decide))]
  clear GE
  go_enter Tryz.func34,Tryz.ntmps34
  go_wp2_with fail
  refine(unhide LG _ (hA _)).mono ?_
  rintro e w1 ⟨v1,rfl,ho1,hb1⟩
  obtain⟨hs1,j0,j1,j2,HB1,HO1,-⟩:=ch_open ho1 hb1
  clear hb1 ho1
  obtain⟨gb,cap,hv,hgb,hgl,hcap,hcc⟩:=(unhide HO1).at h0
  have hl:=hcc (g.length-1) (by omega)
  clear hcc
  subst hv
  have r0:=hl.tr;have r1:=hl.keep;have r2:=hl.hand
  have z1:=(unhide HO1).frozen rfl ((g.length-1) * 3+1)
  clear hl
  obtain⟨m,hm⟩:∃ m,g.length=m+1:=⟨g.length-1,by omega⟩
  have hm1:g.length-1=m:=by omega
  rw[hm1]at r0 r1 r2 z1
  rw[hm1]at ht RR
  rw[ht]at r0
  clear ht
  go_wp2_with fail
  go_ret2
  exact ch_yes RR.out (((unhide HO1).take rfl m (by omega)).base_le (base':=w.heap.size) (by omega)) (unhide HB1)
 ·have RR:Hid (changeC ⟨36,fa,fb,fc,fd⟩ g=none):=by show _=_;rw[GE,if_pos (.inr (.inl ht))]
  clear GE
  go_enter Tryz.func34,Tryz.ntmps34
  go_wp2_with fail
  refine(unhide LG _ (hA _)).mono ?_
  rintro e w1 ⟨v1,rfl,ho1,hb1⟩
  obtain⟨hs1,j0,j1,j2,HB1,HO1,-⟩:=ch_open ho1 hb1
  clear hb1 ho1
  obtain⟨gb,cap,hv,hgb,hgl,hcap,hcc⟩:=(unhide HO1).at h0
  have hl:=hcc (g.length-1) (by omega)
  clear hcc
  subst hv
  have r0:=hl.tr;have r1:=hl.keep;have r2:=hl.hand
  have z1:=(unhide HO1).frozen rfl ((g.length-1) * 3+1)
  clear hl
  obtain⟨m,hm⟩:∃ m,g.length=m+1:=⟨g.length-1,by omega⟩
  have hm1:g.length-1=m:=by omega
  rw[hm1]at r0 r1 r2 z1
  rw[hm1]at ht
  rw[ht]at r0
  clear ht
  go_wp2_with fail
  go_ret2
  exact ch_no RR.out (unhide HB1)
theorem l6change_none (op:Int)(fa fb fc fd:Int)(g:List GuD)(a:Option Addr)(c:Nat)(S:Nat→Prop)(w:World)(hs:GusAt w S a g)(hB:∀ b,S b→b<w.heap.size)(hl:g.length≤50)(k31:op≠31)(k33:op≠33)(k32:op≠32)(k34:op≠34)(k35:op≠35)(k36:op≠36) :
  Calls Tryz.prog 34 #[.agg #[.int .i64 op,.int .i64 fa,.int .i64 fb,.int .i64 fc,.int .i64 fd],.slice a g.length c] w (ChPost ⟨op,fa,fb,fc,fd⟩ g w):=by
 have hn:=hs.1
 obtain⟨i0,hi,hz0,hz1,hz2⟩:=info_of info_gu
 have HS:=hide hs;have HB:=hide hB
 have hA:∀ o,Below w.heap.size w (w.alloc o):=fun o=>(Below.refl _ _).alloc (Nat.le_refl _) o
 have LG:=hide (fun W (hW:Below w.heap.size w W)=>l6guards_any a g c S W (hs.keep hW hB) (fun b h=>Nat.lt_of_lt_of_le (hB b h) hW.size) (by omega))
 have LA:=hide (fun W (hW:Below w.heap.size w W) (keep:Int)=>l6above_any a g c keep S W (hs.keep hW hB) (fun b h=>Nat.lt_of_lt_of_le (hB b h) hW.size))
 clear hs hB
 have RR:Hid (changeC ⟨op,fa,fb,fc,fd⟩ g=some g):=by show _=_;simp[changeC,k31,k33,k32,k34,k35,k36]
 have x31:(op==31)=false:=beq_eq_false_iff_ne.2 k31
 have x33:(op==33)=false:=beq_eq_false_iff_ne.2 k33
 have x32:(op==32)=false:=beq_eq_false_iff_ne.2 k32
 have x34:(op==34)=false:=beq_eq_false_iff_ne.2 k34
 have x35:(op==35)=false:=beq_eq_false_iff_ne.2 k35
 have x36:(op==36)=false:=beq_eq_false_iff_ne.2 k36
 clear k31 k33 k32 k34 k35 k36
 go_enter Tryz.func34,Tryz.ntmps34
 go_wp2_with fail
 refine(unhide LG _ (hA _)).mono ?_
 rintro e w1 ⟨v1,rfl,ho1,hb1⟩
 obtain⟨hs1,j0,j1,j2,HB1,HO1,av,cv,rfl⟩:=ch_open ho1 hb1
 clear hb1 ho1
 go_wp2_with fail
 go_ret2
 exact ch_yes RR.out ((unhide HO1).base_le (base':=w.heap.size) (by omega)) (unhide HB1)
theorem l6change_any (op:Int)(fa fb fc fd:Int)(g:List GuD)(a:Option Addr)(c:Nat)(S:Nat→Prop)(w:World)(hs:GusAt w S a g)(hB:∀ b,S b→b<w.heap.size)(hl:g.length≤50) :
  Calls Tryz.prog 34 #[.agg #[.int .i64 op,.int .i64 fa,.int .i64 fb,.int .i64 fc,.int .i64 fd],.slice a g.length c] w (ChPost ⟨op,fa,fb,fc,fd⟩ g w):=by
 by_cases k31:op=31
 ·subst k31;exact l6change_31 fa fb fc fd g a c S w hs hB hl
 by_cases k33:op=33
 ·subst k33;exact l6change_33 fa fb fc fd g a c S w hs hB hl
 by_cases k32:op=32
 ·subst k32;exact l6change_32 fa fb fc fd g a c S w hs hB hl
 by_cases k34:op=34
 ·subst k34;exact l6change_34 fa fb fc fd g a c S w hs hB hl
 by_cases k35:op=35
 ·subst k35;exact l6change_35 fa fb fc fd g a c S w hs hB hl
 by_cases k36:op=36
 ·subst k36;exact l6change_36 fa fb fc fd g a c S w hs hB hl
 exact l6change_none op fa fb fc fd g a c S w hs hB hl k31 k33 k32 k34 k35 k36
end Go.Proofs.YthmjjhfjkgaocaaGreatDoor

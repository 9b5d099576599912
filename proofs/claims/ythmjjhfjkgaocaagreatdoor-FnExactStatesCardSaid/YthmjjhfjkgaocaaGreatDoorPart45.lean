import Derived.Test.YthmjjhfjkgaocaaGreatDoorPart43
set_option linter.unusedSimpArgs false
set_option linter.unusedVariables false
set_option maxHeartbeats 4000000
set_option maxRecDepth 100000
namespace Go.Proofs.YthmjjhfjkgaocaaGreatDoor
open Go.RowKit
def silT (n:InsD)(a:Nat):List Nat:=
 if n.op=1∨n.op=3∨n.op=28∨(n.op=18∧n.fb=12)then[]
 else(if goesC n=true∧n.op≠41 then[a+1]else[])++(match targT n with | none=>[] | some y=>[y.toNat])
theorem silT_mem (n:InsD)(a x:Nat):x∈silT n a↔x∈silentC n a:=by
 by_cases c1:n.op=1∨n.op=3∨n.op=28
 ·unfold silT silentC
  rw[if_pos (by omega),if_pos (by omega)]
 by_cases c2:n.op=18∧n.fb=12
 ·unfold silT silentC
  rw[if_pos (by omega),if_neg (by omega),if_pos c2]
 by_cases c3:n.op=29
 ·simp[silT,silentC,targT,goesC,c3]
 by_cases c4:n.op=30
 ·simp[silT,silentC,targT,goesC,c4]
 by_cases c5:n.op=19
 ·simp[silT,silentC,targT,goesC,c5]
 by_cases c6:n.op=41
 ·simp[silT,silentC,targT,goesC,c6]
 by_cases c7:n.op=31
 ·simp[silT,silentC,targT,goesC,c7,or_comm]
 by_cases c8:n.op=20
 ·simp[silT,silentC,targT,goesC,c8,or_comm]
 by_cases c9:n.op=21
 ·simp[silT,silentC,targT,goesC,c9,or_comm]
 by_cases c10:n.op=38
 ·simp[silT,silentC,targT,goesC,c10,or_comm]
 by_cases c11:n.op=39
 ·simp[silT,silentC,targT,goesC,c11,or_comm]
 ·have hg:goesC n=true:=by simp[goesC,c3,c4,c5]
  have ht:targT n=none:=by simp[targT,c5,c6,c7,c8,c9,c10,c11]
  unfold silT silentC
  rw[if_neg (by omega),if_pos ⟨hg,c6⟩,ht,if_neg (by omega),if_neg c2,if_neg c5,if_neg c6,if_neg (by omega),if_neg c7]
  simp
theorem silT_len (n:InsD)(a:Nat):(silT n a).length≤2:=by
 unfold silT
 split
 ·simp
 ·rw[List.length_append]
  have h1:(if goesC n=true∧n.op≠41 then[a+1]else[]).length≤1:=by split<;>simp
  have h2:(match targT n with | none=>[] | some y=>[y.toNat]:List Nat).length≤1:=by split<;>simp
  omega
theorem rch_congr {E E':Nat→List Nat}(h:∀ x y,y∈E x→y∈E' x){x y:Nat}(hr:Rch E x y):Rch E' x y:=by
 obtain⟨n,hn⟩:=hr
 refine⟨n,?_⟩
 induction n generalizing x with
 | zero=>exact hn
 | succ n ih=>obtain⟨z,hz,hn⟩:=hn;exact⟨z,h x z hz,ih hn⟩
theorem ring_congr {E E':Nat→List Nat}(h:∀ x y,y∈E x↔y∈E' x){x:Nat}:Ring E x↔Ring E' x:=
 ⟨fun⟨z,h1,h2⟩=>⟨z,(h x z).1 h1,rch_congr (fun x y=>(h x y).1) h2⟩,fun⟨z,h1,h2⟩=>⟨z,(h x z).2 h1,rch_congr (fun x y=>(h x y).2) h2⟩⟩
theorem push_run (v:Value)(l:List Int)(y:Int)(base vb:Nat)(w:World)(h:OwnI w base v l)(hbs:base≤w.heap.size)(hl:l.length≤1000000)(hv:w.heap[vb]? = some (.cells #[.int .i64 y] 3 (0,0))) :
  ∃ g cap w1,(Builtin.append_ #[54,54] 54 #[v,.slice (some ⟨vb,0,none⟩) 1 1]).run Tryz.prog w=.ok (.slice (some ⟨g,0,none⟩) (l.length+1) cap) w1∧OwnI w1 base (.slice (some ⟨g,0,none⟩) (l.length+1) cap) (l++[y])∧w.grownBy w1 v.ownBlock∧(v.ownBlock=some g∨g=w.heap.size)∧g<w1.heap.size:=by
 obtain⟨i0,hi,hz0,hz1,hz2⟩:=info_of info_i
 obtain⟨g,cap,w1,h1,h2,h3,h4,h5⟩:=run_append_lies (P:=Tryz.prog) w 54 54 base 3 i0 (.int .i64 0) 1 8 Tryz.underlying54 hi hz0 hz1 hz2 rfl (by decide) v l.length _ h ⟨vb,0,none⟩ 1 1 [.int .i64 y] rfl (fun j u hj=>by
  cases j with
  | zero=>simp at hj;subst hj;rw[Addr.add_lit];simp[World.cell?,hv]
  | succ j=>simp at hj) (fun u hu=>by simp at hu;subst hu;rfl) (by omega) (by unfold maxLen;omega) (by omega) hbs _ rfl
 exact⟨g,cap,w1,h1,OwnI.push h2,h3,h4,h5⟩
theorem below_grown {B:Nat}{w w1:World}{row:Option Nat}(h:w.grownBy w1 row)(hr:∀ k,row=some k→B≤k)(hB:B≤w.heap.size):Below B w w1:=
 (Below.refl B w).grown h hB hr
theorem silentSteps_any (bV b7 o7 c7 N op:Nat)(fa fb fc fd:Int)(a:Nat)(w:World)(hG:RTab w)(h43:op<43)(ha:a<N)(hN:N≤6000)(k9:w.cell? ⟨bV,9,none⟩=some (.slice (some ⟨b7,o7,none⟩) N c7))(hx:InsCells w b7 (o7+a * 5) ⟨(op:Int),fa,fb,fc,fd⟩)(ht:∀ y,targT ⟨(op:Int),fa,fb,fc,fd⟩=some y→0≤y) :
  Calls Tryz.prog 88 #[.pointer (some ⟨bV,0,none⟩),.int .i64 (a:Int)] w (OwnRet (natI (silT ⟨(op:Int),fa,fb,fc,fd⟩ a)) w):=by
 obtain⟨x0,x1,x2,x3,x4⟩:=hx
 dsimp only at x0 x1 x2 x3 x4
 have hbV:bV<w.heap.size:=World.block_lt_of_cell? _ _ k9
 have hb7:b7<w.heap.size:=World.block_lt_of_cell? _ _ x0
 have haN:(a:Int)<N:=by omega
 have hA:Below w.heap.size w (w.alloc (.cells #[.int .i64 (op:Int),.int .i64 fa,.int .i64 fb,.int .i64 fc,.int .i64 fd] 78)):=(Below.refl _ _).alloc (Nat.le_refl _) _
 have HA:=hide hA
 have TG:Hid (Calls Tryz.prog 86 #[.agg #[.int .i64 (op:Int),.int .i64 fa,.int .i64 fb,.int .i64 fc,.int .i64 fd]] (w.alloc (.cells #[.int .i64 (op:Int),.int .i64 fa,.int .i64 fb,.int .i64 fc,.int .i64 fd] 78)) (TgPost ⟨(op:Int),fa,fb,fc,fd⟩ (w.alloc (.cells #[.int .i64 (op:Int),.int .i64 fa,.int .i64 fb,.int .i64 fc,.int .i64 fd] 78)))):=target_any op fa fb fc fd _ (hG.keep hA hG.pos) h43
 have XC:Hid (∀ W,Below (w.heap.size+1) (w.alloc (.cells #[.int .i64 (op:Int),.int .i64 fa,.int .i64 fb,.int .i64 fc,.int .i64 fd] 78)) W→(W.cell? ⟨w.heap.size,0,none⟩=some (.int .i64 (op:Int))∧W.cell? ⟨w.heap.size,1,none⟩=some (.int .i64 fa)∧W.cell? ⟨w.heap.size,2,none⟩=some (.int .i64 fb)∧W.cell? ⟨w.heap.size,3,none⟩=some (.int .i64 fc)∧W.cell? ⟨w.heap.size,4,none⟩=some (.int .i64 fd))∧w.heap.size<W.heap.size):=fun W hW=>by
  have e:∀ o,W.cell? ⟨w.heap.size,o,none⟩=(w.alloc (.cells #[.int .i64 (op:Int),.int .i64 fa,.int .i64 fb,.int .i64 fc,.int .i64 fd] 78)).cell? ⟨w.heap.size,o,none⟩:=fun o=>hW.cell (p:=⟨w.heap.size,o,none⟩) (by show w.heap.size<w.heap.size+1;omega)
  refine⟨⟨(e 0).trans (by simp[go_sem]),(e 1).trans (by simp[go_sem]),(e 2).trans (by simp[go_sem]),(e 3).trans (by simp[go_sem]),(e 4).trans (by simp[go_sem])⟩,?_⟩
  have:=hW.size
  simp at this
  omega
 have HT:=hide ht
 obtain⟨RL,hRL⟩:∃ RL,silT ⟨(op:Int),fa,fb,fc,fd⟩ a=RL:=⟨_,rfl⟩
 rw[hRL]
 have RE:=hide hRL
 clear hG ht hA hRL
 go_enter Tryz.func88,Tryz.ntmps88
 go_wp2_with fail
 refine(unhide TG).mono ?_
 rintro e w1 ⟨rfl,hb1⟩
 have hs0:(w.alloc (.cells #[.int .i64 (op:Int),.int .i64 fa,.int .i64 fb,.int .i64 fc,.int .i64 fd] 78)).heap.size=w.heap.size+1:=by simp
 replace hb1:=hb1.mono (Nat.le_of_eq hs0.symm)
 have HB1:Hid (Below w.heap.size w w1):=HA.out.trans (hb1.mono (by omega))
 obtain⟨⟨i0,i1,i2,i3,i4⟩,lX⟩:=unhide XC w1 hb1
 have HC1:=hide hb1
 have hs1:=HB1.out.size
 clear hb1 TG k9 x0 x1 x2 x3 x4 hbV hb7 haN hs0 HA
 by_cases c1:op=1∨op=3∨op=28∨(op=18∧fb=12)
 ·have RES:Hid (RL=[]):=by
   show RL=_
   rw[←RE.out]
   unfold silT
   rw[if_pos (by show(op:Int)=1∨(op:Int)=3∨(op:Int)=28∨((op:Int)=18∧fb=12);omega)]
  clear RE
  have RL0:Hid (OwnI w1 w.heap.size (.slice none 0 0) (natI RL)):=by show OwnI _ _ _ _;rw[RES.out];exact World.ownsRow_nil _ _ _ _
  rcases c1 with c | c | c | ⟨c,c'⟩
  ·subst c
   go_wp2_with fail
   go_ret
   exact⟨_,rfl,RL0.out,HB1.out⟩
  ·subst c
   go_wp2_with fail
   go_ret
   exact⟨_,rfl,RL0.out,HB1.out⟩
  ·subst c
   go_wp2_with fail
   go_ret
   exact⟨_,rfl,RL0.out,HB1.out⟩
  ·subst c
   subst c'
   go_wp2_with fail
   go_ret
   exact⟨_,rfl,RL0.out,HB1.out⟩
 ·have e1:((op:Int)==1)=false:=by simp;omega
  have e2:((op:Int)==3)=false:=by simp;omega
  have e3:((op:Int)==28)=false:=by simp;omega
  have RES:Hid (RL=(if goesC ⟨(op:Int),fa,fb,fc,fd⟩=true∧(op:Int)≠41 then[a+1]else[])++(match targT ⟨(op:Int),fa,fb,fc,fd⟩with | none=>[] | some y=>[y.toNat])):=by
   show RL=_
   rw[←RE.out]
   unfold silT
   rw[if_neg (by show ¬((op:Int)=1∨(op:Int)=3∨(op:Int)=28∨((op:Int)=18∧fb=12));omega)]
  clear RE
  have GN:Hid (Calls Tryz.prog 85 #[.agg #[.int .i64 (op:Int),.int .i64 fa,.int .i64 fb,.int .i64 fc,.int .i64 fd]] w1 fun e w'=>e=.returned (.bool (sGoesOn op))∧Below w1.heap.size w1 w'):=goesOn_any op fa fb fc fd w1
  have C18:Hid (((op:Int)==18)=false∨(((op:Int)==18)=true∧(fb==12)=false)):=by
   by_cases c:op=18
   ·exact .inr ⟨by simp;omega,by simp;omega⟩
   ·exact .inl (by simp;omega)
  clear c1
  have TAIL:∀(HH:((op:Int)==18)=false∨(((op:Int)==18)=true∧(fb==12)=false)),True:=fun _=>trivial
  clear TAIL
  rcases C18.out with c18 | ⟨c18,c12⟩
  all_goals
   go_wp2_with fail
   refine(unhide GN).mono ?_
   rintro e w2 ⟨rfl,hb2⟩
   have HB2:Hid (Below w.heap.size w w2):=HB1.out.trans (hb2.mono hs1)
   have HC2:Hid (Below (w.heap.size+1) (w.alloc (.cells #[.int .i64 (op:Int),.int .i64 fa,.int .i64 fb,.int .i64 fc,.int .i64 fd] 78)) w2):=HC1.out.trans (hb2.mono (by omega))
   clear i0 i1 i2 i3 i4 lX
   obtain⟨⟨i0,i1,i2,i3,i4⟩,lX⟩:=unhide XC w2 HC2.out
   have hs2:=hb2.size
   clear hb2 i1 i2 i3 i4
   have GOE:Hid (goesC ⟨(op:Int),fa,fb,fc,fd⟩=sGoesOn op):=rfl
   by_cases cg:sGoesOn op=true∧op≠41
   ·have hif:(if goesC ⟨(op:Int),fa,fb,fc,fd⟩=true∧(op:Int)≠41 then[a+1]else[])=[a+1]:=if_pos ⟨GOE.out.trans cg.1,by have:=cg.2;omega⟩
    rw[cg.1]
    have RE2:Hid (RL=[a+1]++(match targT ⟨(op:Int),fa,fb,fc,fd⟩with | none=>[] | some y=>[y.toNat])):=by show RL=_;rw[RES.out,hif]
    clear hif
    have e41:((op:Int) != 41)=true:=by have:=cg.2;simp;omega
    obtain⟨g1,q1,w3,r1,O1,gr1,at1,l1⟩:=push_run (.slice none 0 0) [] ((a:Int)+1) w2.heap.size w2.heap.size (w2.alloc (.cells #[.int .i64 ((a:Int)+1)] 3)) (World.ownsRow_nil _ _ _ _) (by simp) (by simp) (Go.Deep.blk_alloc_new _ _)
    have hA2:Below w2.heap.size w2 (w2.alloc (.cells #[.int .i64 ((a:Int)+1)] 3)):=(Below.refl _ _).alloc (Nat.le_refl _) _
    have B3:Below w2.heap.size w2 w3:=hA2.trans (below_grown gr1 (fun k hk=>by cases hk) hA2.size)
    have HB3:Hid (Below w.heap.size w w3):=HB2.out.trans (B3.mono (by omega))
    have O1':OwnI w3 w.heap.size (.slice (some ⟨g1,0,none⟩) 1 q1) [(a:Int)+1]:=O1.base_le (by omega)
    have hg1:w.heap.size≤g1:=(O1'.lt' g1 rfl).1
    have AR1:=hide r1
    have hs3:=B3.size
    clear hA2 B3 O1 gr1 at1 r1 cg
    cases htg:targT ⟨(op:Int),fa,fb,fc,fd⟩with
    | none=>
     have HO:Hid (OwnI w3 w.heap.size (.slice (some ⟨g1,0,none⟩) 1 q1) (natI RL)):=by show OwnI _ _ _ _;rw[RE2.out,htg];exact O1'
     clear O1'
     go_wp2_with (at_builtin;refine wpList_append_run rfl _ _ 54 rfl _ _ rfl rfl (unhide AR1) ?_)
     go_ret
     exact⟨_,rfl,HO.out,HB3.out⟩
    | some y=>
     obtain⟨yn,rfl⟩:=Int.eq_ofNat_of_zero_le (HT.out y htg)
     obtain⟨g2,q2,w4,r2,O2,gr2,at2,l2⟩:=push_run (.slice (some ⟨g1,0,none⟩) 1 q1) [(a:Int)+1] (yn:Int) w.heap.size w3.heap.size (w3.alloc (.cells #[.int .i64 (yn:Int)] 3)) (O1'.alloc _) (by simp;omega) (by simp) (Go.Deep.blk_alloc_new _ _)
     have hA3:Below w.heap.size w (w3.alloc (.cells #[.int .i64 (yn:Int)] 3)):=HB3.out.alloc (by omega) _
     have HB4:Hid (Below w.heap.size w w4):=hA3.trans (below_grown gr2 (fun k hk=>by have:g1=k:=Option.some.inj hk;omega) hA3.size)
     have AR2:=hide r2
     have HO:Hid (OwnI w4 w.heap.size (.slice (some ⟨g2,0,none⟩) 2 q2) (natI RL)):=by show OwnI _ _ _ _;rw[RE2.out,htg];exact O2
     clear O1' O2 gr2 at2 r2 hA3
     go_wp2_with (first
      | (at_builtin;refine wpList_append_run rfl _ _ 54 rfl _ _ rfl rfl (unhide AR1) ?_)
      | (at_builtin;refine wpList_append_run rfl _ _ 54 rfl _ _ rfl rfl (unhide AR2) ?_))
     go_ret
     exact⟨_,rfl,HO.out,HB4.out⟩
   ·have hif:(if goesC ⟨(op:Int),fa,fb,fc,fd⟩=true∧(op:Int)≠41 then[a+1]else[])=[]:=if_neg (fun h=>cg ⟨GOE.out.symm.trans h.1,by have:=h.2;omega⟩)
    have RE2:Hid (RL=[]++(match targT ⟨(op:Int),fa,fb,fc,fd⟩with | none=>[] | some y=>[y.toNat])):=by show RL=_;rw[RES.out,hif]
    clear hif
    have NG:(sGoesOn op=false)∨(sGoesOn op=true∧((op:Int) != 41)=false):=by
     cases h:sGoesOn op with
     | false=>exact .inl rfl
     | true=>exact .inr ⟨rfl,by have:op=41:=Classical.byContradiction (fun c=>cg ⟨h,c⟩);subst this;rfl⟩
    clear cg
    cases htg:targT ⟨(op:Int),fa,fb,fc,fd⟩with
    | none=>
     have HO:Hid (OwnI w2 w.heap.size (.slice none 0 0) (natI RL)):=by show OwnI _ _ _ _;rw[RE2.out,htg];exact World.ownsRow_nil _ _ _ _
     rcases NG with ng | ⟨ng,ng2⟩
     all_goals
      rw[ng]
      go_wp2_with fail
      go_ret
      exact⟨_,rfl,HO.out,HB2.out⟩
    | some y=>
     obtain⟨yn,rfl⟩:=Int.eq_ofNat_of_zero_le (HT.out y htg)
     obtain⟨g2,q2,w4,r2,O2,gr2,at2,l2⟩:=push_run (.slice none 0 0) [] (yn:Int) w2.heap.size w2.heap.size (w2.alloc (.cells #[.int .i64 (yn:Int)] 3)) (World.ownsRow_nil _ _ _ _) (by simp) (by simp) (Go.Deep.blk_alloc_new _ _)
     have hA2:Below w2.heap.size w2 (w2.alloc (.cells #[.int .i64 (yn:Int)] 3)):=(Below.refl _ _).alloc (Nat.le_refl _) _
     have HB4:Hid (Below w.heap.size w w4):=HB2.out.trans ((hA2.trans (below_grown gr2 (fun k hk=>by cases hk) hA2.size)).mono (by omega))
     have HO:Hid (OwnI w4 w.heap.size (.slice (some ⟨g2,0,none⟩) 1 q2) (natI RL)):=by show OwnI _ _ _ _;rw[RE2.out,htg];exact O2.base_le (by omega)
     have AR2:=hide r2
     clear O2 gr2 at2 r2 hA2
     rcases NG with ng | ⟨ng,ng2⟩
     all_goals
      rw[ng]
      go_wp2_with (at_builtin;refine wpList_append_run rfl _ _ 54 rfl _ _ rfl rfl (unhide AR2) ?_)
      go_ret
      exact⟨_,rfl,HO.out,HB4.out⟩
def minTo (l:List Int):Nat→Int
 | 0=>l[0]?.getD 0
 | k+1=>min (minTo l k) (l[k+1]?.getD 0)
theorem minTo_le (l:List Int):∀ k j,j≤k→minTo l k≤l[j]?.getD 0
 | 0,j,h=>by
  have:j=0:=by omega
  subst this;exact Int.le_refl _
 | k+1,j,h=>by
  show min (minTo l k) (l[k+1]?.getD 0)≤_
  by_cases e:j=k+1
  ·subst e;omega
  ·have:=minTo_le l k j (by omega);omega
theorem minTo_is (l:List Int):∀ k,∃ j,j≤k∧minTo l k=l[j]?.getD 0
 | 0=>⟨0,Nat.le_refl _,rfl⟩
 | k+1=>by
  obtain⟨j,hj,e⟩:=minTo_is l k
  show ∃ j,j≤k+1∧min (minTo l k) (l[k+1]?.getD 0)=_
  by_cases c:minTo l k≤l[k+1]?.getD 0
  ·exact⟨j,by omega,by omega⟩
  ·exact⟨k+1,Nat.le_refl _,by omega⟩
def MiPost (l:List Int)(w:World)(e:Ending)(w':World):Prop:=∃ y,e=.returned (.int .i64 y)∧y∈l∧(∀ z,z∈l→y≤z)∧w'=w
theorem min_any (a:Option Addr)(l:List Int)(c:Nat)(S:Nat→Prop)(w:World)(hs:IntsAt w S a l)(hl:l.length≤1000000)(h0:0<l.length) :
  Calls Tryz.prog 137 #[.slice a l.length c] w (MiPost l w):=by
 obtain⟨b,off,rfl,_,hcc⟩:=hs.2 h0
 have HCC:=hide hcc
 have q0:=hcc 0 h0
 rw[Nat.add_zero]at q0
 change w.cell? ⟨b,off,none⟩=some (.int .i64 (minTo l 0))at q0
 have hbl:b<w.heap.size:=World.block_lt_of_cell? _ _ q0
 have hpos:(0:Int)<l.length:=by omega
 have hlt1:¬((l.length:Int)<1):=by omega
 have FIN:Hid (MiPost l w (.returned (.int .i64 (minTo l (l.length-1)))) w):=by
  obtain⟨j,hj,e⟩:=minTo_is l (l.length-1)
  refine⟨_,rfl,?_,fun z hz=>?_,rfl⟩
  ·rw[e,List.getElem?_eq_getElem (by omega)];exact List.getElem_mem _
  ·obtain⟨i,hi,rfl⟩:=List.getElem_of_mem hz
   have:=minTo_le l (l.length-1) i (by omega)
   rw[List.getElem?_eq_getElem hi]at this
   exact this
 clear hcc hs
 go_enter Tryz.func137,Tryz.ntmps137
 go_wp2_with fail
 go_loopg [3,4] (l.length-1) (fun gg m i wr=>∃ q:Nat,q+gg=l.length∧1≤q∧i=.int .i64 q∧m=.int .i64 (minTo l (q-1))∧wr=w)
 case atStart=>exact⟨1,by omega,by omega,rfl,rfl,rfl⟩
 case round=>
  clear q0
  obtain⟨q,hq,hq1,rfl,rfl,rfl⟩:=hrel
  by_cases hlt:q<l.length
  ·have qc:=unhide HCC q hlt
   have hqI:(q:Int)<l.length:=by omega
   obtain⟨k,rfl⟩:∃ k,q=k+1:=⟨q-1,by omega⟩
   have MT:Hid (minTo l (k+1)=min (minTo l k) (l[k+1]?.getD 0)):=rfl
   rw[Nat.add_sub_cancel]
   generalize l[k+1]?.getD 0=y at *
   generalize minTo l k=m at *
   go_wp2_with fail
   all_goals
    go_roundg (l.length-(k+1+1))
    case measure=>omega
    case rel=>exact⟨k+1+1,by omega,by omega,by go_num,by first | (rw[Nat.add_sub_cancel,MT.out];done) | (rw[Nat.add_sub_cancel,MT.out];congr 1;omega),rfl⟩
  ·have hqe:q=l.length:=by omega
   subst hqe
   go_wp2_with fail
   go_ret
   exact FIN.out
end Go.Proofs.YthmjjhfjkgaocaaGreatDoor

import Derived.Test.YtmjcpapdncfkpaaGreatDoorPart27
import Derived.RegionTactic
import Derived.ChangeAlike
set_option linter.unusedSimpArgs false
set_option linter.unusedVariables false
set_option maxHeartbeats 4000000
set_option maxRecDepth 100000
namespace Go.Proofs.YtmjcpapdncfkpaaGreatDoor
open Go.RowKit
theorem info_nx:(Tryz.prog.info? 78).map (fun i=>(i.zero,i.size,i.bytes))=some (some (.agg #[.int .i64 0,.bool false,.slice none 0 0,.slice none 0 0]),4,64):=by kernel_rfl
theorem GusAt.mono {w:World}{S S':Nat→Prop}{a:Option Addr}{l:List GuD}(h:GusAt w S a l)(hS:∀ b,S b→S' b):GusAt w S' a l:=
 ⟨h.1,fun h0=>by
  obtain⟨b,off,e,hs,hc⟩:=h.2 h0
  exact⟨b,off,e,hS b hs,hc⟩⟩
def zeroTo (t:List Int)(f:Nat):Nat→List Int
 | 0=>t
 | d+1=>(zeroTo t f d).set (f+d) 0
theorem zeroTo_len (t:List Int)(f:Nat):∀ d,(zeroTo t f d).length=t.length
 | 0=>rfl
 | d+1=>by rw[zeroTo,List.length_set,zeroTo_len t f d]
theorem zeroTo_get (t:List Int)(f j:Nat)(hj:j<t.length):∀ d,(zeroTo t f d)[j]? = if f≤j∧j<f+d then some 0 else t[j]?
 | 0=>by rw[if_neg (by omega)];rfl
 | d+1=>by
  have ih:=zeroTo_get t f j hj d
  rw[zeroTo,List.getElem?_set]
  by_cases e:f+d=j
  ·rw[if_pos e,if_pos (by rw[zeroTo_len];omega),if_pos (by omega)]
  ·rw[if_neg e,ih]
   by_cases c:f≤j∧j<f+d
   ·rw[if_pos c,if_pos (by omega)]
   ·rw[if_neg c,if_neg (by omega)]
theorem zeroTo_end (t:List Int)(f:Nat)(hf:f≤t.length):zeroTo t f (t.length-f)=t.take f++List.replicate (t.length-f) 0:=by
 apply List.ext_getElem?
 intro j
 by_cases hj:j<t.length
 ·rw[zeroTo_get t f j hj]
  by_cases c:f≤j
  ·rw[if_pos (by omega),List.getElem?_append_right (by simp;omega),List.getElem?_replicate,if_pos (by simp;omega)]
  ·rw[if_neg (by omega),List.getElem?_append_left (by simp;omega),List.getElem?_take,if_pos (by omega)]
 ·rw[List.getElem?_eq_none (by rw[zeroTo_len];omega),List.getElem?_eq_none (by simp;omega)]
structure FoR where
 at_:Int
 a:Option Addr
 n:Nat
 c:Nat
 a2:Option Addr
 n2:Nat
 c2:Nat
def foV (x:FoR):List Value:=[.int .i64 x.at_,.bool true,.slice x.a x.n x.c,.slice x.a2 x.n2 x.c2]
def FoR.z:FoR:=⟨0,none,0,0,none,0,0⟩
def OwnF (w:World)(base:Nat)(v:Value)(L:List FoR):Prop:=w.ownsRow base 78 4 v L.length (L.flatMap foV)
theorem OwnF.push {w:World}{base:Nat}{v:Value}{t:List FoR}{x:FoR}(h:w.ownsRow base 78 4 v (t.length+1) (t.flatMap foV++foV x)):OwnF w base v (t++[x]):=by
 unfold OwnF
 rw[List.length_append,List.flatMap_append]
 simpa using h
theorem OwnF.base_le {w:World}{base base':Nat}{v:Value}{t:List FoR}(h:OwnF w base v t)(hb:base'≤base):OwnF w base' v t:=by
 refine⟨h.1,?_⟩
 rcases h.2 with hn | ⟨g,cap,cur,rfl,h1,h2⟩
 ·exact .inl hn
 ·exact .inr ⟨g,cap,cur,rfl,Nat.le_trans hb h1,h2⟩
theorem OwnF.below {w w':World}{base:Nat}{v:Value}{t:List FoR}(h:OwnF w base v t)(hb:Below w.heap.size w w'):OwnF w' base v t:=by
 refine⟨h.1,?_⟩
 rcases h.2 with hn | ⟨g,cap,cur,rfl,h1,hg,h2⟩
 ·exact .inl hn
 ·exact .inr ⟨g,cap,cur,rfl,h1,(hb.block g (Array.getElem?_eq_some_iff.1 hg).1).trans hg,h2⟩
def FoIs (w:World)(x:FoR)(y:Nat×StD):Prop:=x.at_=(y.1:Nat)∧x.n=y.2.types.length∧x.n2=y.2.guards.length∧IntsAt w (fun b=>b<w.heap.size) x.a y.2.types∧GusAt w (fun b=>b<w.heap.size) x.a2 y.2.guards
def FoPost (F:List (Nat×StD))(w:World)(e:Ending)(w':World):Prop:=
 ∃ v L,e=.returned v∧OwnF w' w.heap.size v L∧L.length=F.length∧(∀(j:Nat) x y,L[j]? = some x→F[j]? = some y→FoIs w' x y)∧Below w.heap.size w w'
theorem fo_nil {w w':World}(hb:Below w.heap.size w w'):FoPost [] w (.returned (.slice none 0 0)) w':=⟨_,[],rfl,World.ownsRow_nil _ _ _ _,rfl,fun j x y h=>by simp at h,hb⟩
theorem fo_one {w w':World}{v:Value}{x:FoR}{y:Nat×StD}(ho:OwnF w' w.heap.size v [x])(h:FoIs w' x y)(hb:Below w.heap.size w w'):FoPost [y] w (.returned v) w':=
 ⟨v,[x],rfl,ho,rfl,fun j a b h1 h2=>by
  cases j with
  | zero=>simp at h1 h2;subst h1 h2;exact h
  | succ j=>simp at h1,hb⟩
theorem fo_two {w w':World}{v:Value}{x x2:FoR}{y y2:Nat×StD}(ho:OwnF w' w.heap.size v [x,x2])(h:FoIs w' x y)(h2:FoIs w' x2 y2)(hb:Below w.heap.size w w'):FoPost [y,y2] w (.returned v) w':=
 ⟨v,[x,x2],rfl,ho,rfl,fun j a b h1 h3=>by
  match j,h1,h3 with
  | 0,h1,h3=>simp at h1 h3;subst h1 h3;exact h
  | 1,h1,h3=>simp at h1 h3;subst h1 h3;exact h2
  | j+2,h1,_=>simp at h1,hb⟩
theorem l6followers_none (op:Int)(fa fb fc fd:Int)(at_:Nat)(nm:ByteArray)(ln pr:Int)(rs:Bool)(rg:Int)(v5 v6 v8:Value)(b off ni c7:Nat)(rb:Bool)(tb t:List Int)(gb g:List GuD)(ab agb at2 ag:Option Addr)(cb cgb ct cg:Nat)(S:Nat→Prop)(w:World)(hB:∀ b,S b→b<w.heap.size)(hbl:b<w.heap.size)(hat:at_<ni)(hni:ni≤6000)(hc:InsCells w b (off+at_ * 5) ⟨op,fa,fb,fc,fd⟩)(h1:IntsAt w S ab tb)(h2:GusAt w S agb gb)(h3:IntsAt w S at2 t)(h4:GusAt w S ag g)(hlt:t.length≤250)(hltb:tb.length≤250)(k19:op≠19)(k29:op≠29)(k30:op≠30)(k20:op≠20)(k21:op≠21)(k38:op≠38)(k39:op≠39)(k41:op≠41)(k31:op≠31) :
  Calls Tryz.prog 28 #[.agg #[.string nm,.int .i64 ln,.int .i64 pr,.bool rs,.int .i64 rg,v5,v6,.slice (some ⟨b,off,none⟩) ni c7,v8],.int .i64 at_,.agg #[.bool rb,.slice ab tb.length cb,.slice agb gb.length cgb],.slice at2 t.length ct,.slice ag g.length cg] w (FoPost (followC ⟨op,fa,fb,fc,fd⟩ at_ ⟨tb,gb⟩ t g) w):=by
 obtain⟨i0,hi,hz0,hz1,hz2⟩:=info_of info_nx
 have d0:=hc.op;have d1:=hc.fa;have d2:=hc.fb;have d3:=hc.fc;have d4:=hc.fd
 clear hc
 simp only at d0 d1 d2 d3 d4
 have hA:∀ o1 o2 o3 o4,Below w.heap.size w ((((w.alloc o1).alloc o2).alloc o3).alloc o4):=fun o1 o2 o3 o4=>((((Below.refl _ _).alloc (Nat.le_refl _) o1).alloc (by simp) o2).alloc (by simp;omega) o3).alloc (by simp;omega) o4
 have T3:Hid (∀ W,Below w.heap.size w W→IntsAt W (fun b=>b<W.heap.size) at2 t∧GusAt W (fun b=>b<W.heap.size) ag g):=fun W hW=>⟨(h3.keep hW hB).mono (fun b h=>Nat.lt_of_lt_of_le (hB b h) hW.size),(h4.keep hW hB).mono (fun b h=>Nat.lt_of_lt_of_le (hB b h) hW.size)⟩
 have hn1:=h1.1;have hn2:=h2.1;have hn3:=h3.1;have hn4:=h4.1
 have RR:Hid (followC ⟨op,fa,fb,fc,fd⟩ at_ ⟨tb,gb⟩ t g=[(at_+1,⟨t,g⟩)]):=by show _=_;simp[followC,goesC,k19,k29,k30,k20,k21,k38,k39,k41,k31]
 have x19:(op==19)=false:=beq_eq_false_iff_ne.2 k19
 have y19:(op != 19)=true:=by simpa using k19
 have x29:(op==29)=false:=beq_eq_false_iff_ne.2 k29
 have y29:(op != 29)=true:=by simpa using k29
 have x30:(op==30)=false:=beq_eq_false_iff_ne.2 k30
 have y30:(op != 30)=true:=by simpa using k30
 have x20:(op==20)=false:=beq_eq_false_iff_ne.2 k20
 have y20:(op != 20)=true:=by simpa using k20
 have x21:(op==21)=false:=beq_eq_false_iff_ne.2 k21
 have y21:(op != 21)=true:=by simpa using k21
 have x38:(op==38)=false:=beq_eq_false_iff_ne.2 k38
 have y38:(op != 38)=true:=by simpa using k38
 have x39:(op==39)=false:=beq_eq_false_iff_ne.2 k39
 have y39:(op != 39)=true:=by simpa using k39
 have x41:(op==41)=false:=beq_eq_false_iff_ne.2 k41
 have y41:(op != 41)=true:=by simpa using k41
 have x31:(op==31)=false:=beq_eq_false_iff_ne.2 k31
 have y31:(op != 31)=true:=by simpa using k31
 clear k19 k29 k30 k20 k21 k38 k39 k41 k31
 rw[RR.out]
 go_enter Tryz.func28,Tryz.ntmps28
 go_wp2_with (first
  | (at_builtin;refine wpList_append_own _ rfl _ _ 75 rfl (w.heap.size+4) 78 i0 (.agg #[.int .i64 0,.bool false,.slice none 0 0,.slice none 0 0]) 4 64 Tryz.underlying75 hi hz0 hz1 hz2 rfl (by decide) _ _ _ rfl (World.ownsRow_nil _ _ _ _) ⟨w.heap.size+1+1+1+1,0,none⟩ 1 1 [.int .i64 ((at_:Int)+1),.bool true,.slice at2 t.length ct,.slice ag g.length cg] rfl rfl ?c1 ?c2 ?c3 ?c4 ?c5 ?_)
  | go_in)
 all_goals try (case c1=>intro j u hj;rcases j with _ | _ | _ | _ | _<;>simp at hj<;>(subst hj;simp[Addr.add,go_sem]))
 all_goals try (case c2=>first | (intro u hu;simp at hu;rcases hu with rfl | rfl | rfl | rfl<;>rfl) | (simp;done) | rfl)
 all_goals try (case c3=>first | (unfold maxLen;simp;done) | (unfold maxLen;omega) | (simp[maxLen];done))
 all_goals try (case c4=>first | (simp;done) | omega)
 all_goals try (case c5=>first | (simp;done) | (simp;omega) | omega)
 intro v1 w1 hown1 hgrow1 _
 have O1:Hid (OwnF w1 (w.heap.size+4) v1 [⟨(at_:Int)+1,at2,t.length,ct,ag,g.length,cg⟩]):=OwnF.push (t:=[]) hown1
 have B1:Hid (Below w.heap.size w w1):=((hA _ _ _ _).alloc (by simp;omega) _).grown hgrow1 (by simp;omega) (fun j hj=>by cases hj)
 have m0:w1.cell? ⟨w.heap.size+1+1,0,none⟩=some (.int .i64 op):=hgrow1.cell (by simp[go_sem]) (by simp[Value.ownBlock])
 have m1:w1.cell? ⟨w.heap.size+1+1,1,none⟩=some (.int .i64 fa):=hgrow1.cell (by simp[go_sem]) (by simp[Value.ownBlock])
 have m2:w1.cell? ⟨w.heap.size+1+1,2,none⟩=some (.int .i64 fb):=hgrow1.cell (by simp[go_sem]) (by simp[Value.ownBlock])
 have m3:w1.cell? ⟨w.heap.size+1+1,3,none⟩=some (.int .i64 fc):=hgrow1.cell (by simp[go_sem]) (by simp[Value.ownBlock])
 have m4:w1.cell? ⟨w.heap.size+1+1,4,none⟩=some (.int .i64 fd):=hgrow1.cell (by simp[go_sem]) (by simp[Value.ownBlock])
 have n1:w1.cell? ⟨w.heap.size+1,1,none⟩=some (.slice ab tb.length cb):=hgrow1.cell (by simp[go_sem]) (by simp[Value.ownBlock])
 have n2:w1.cell? ⟨w.heap.size+1,2,none⟩=some (.slice agb gb.length cgb):=hgrow1.cell (by simp[go_sem]) (by simp[Value.ownBlock])
 have p0:w1.cell? ⟨w.heap.size+1+1+1,0,none⟩=some (.bool true):=hgrow1.cell (by simp[go_sem]) (by simp[Value.ownBlock])
 have p1:w1.cell? ⟨w.heap.size+1+1+1,1,none⟩=some (.slice at2 t.length ct):=hgrow1.cell (by simp[go_sem]) (by simp[Value.ownBlock])
 have p2:w1.cell? ⟨w.heap.size+1+1+1,2,none⟩=some (.slice ag g.length cg):=hgrow1.cell (by simp[go_sem]) (by simp[Value.ownBlock])
 have hs1:w.heap.size+1+1+1<w1.heap.size:=by have:=hgrow1.size;simp at this;omega
 have hs2:w.heap.size+1+1<w1.heap.size:=by omega
 have hs3:w.heap.size+1<w1.heap.size:=by omega
 clear hown1 hgrow1
 go_wp2_with fail
 go_ret
 exact fo_one ((unhide O1).base_le (by omega)) ⟨by simp,rfl,rfl,(unhide T3 _ (unhide B1)).1,(unhide T3 _ (unhide B1)).2⟩ (unhide B1)
theorem l6followers_e (op:Int)(fa fb fc fd:Int)(at_:Nat)(nm:ByteArray)(ln pr:Int)(rs:Bool)(rg:Int)(v5 v6 v8:Value)(b off ni c7:Nat)(rb:Bool)(tb t:List Int)(gb g:List GuD)(ab agb at2 ag:Option Addr)(cb cgb ct cg:Nat)(S:Nat→Prop)(w:World)(hB:∀ b,S b→b<w.heap.size)(hbl:b<w.heap.size)(hat:at_<ni)(hni:ni≤6000)(hc:InsCells w b (off+at_ * 5) ⟨op,fa,fb,fc,fd⟩)(h1:IntsAt w S ab tb)(h2:GusAt w S agb gb)(h3:IntsAt w S at2 t)(h4:GusAt w S ag g)(hlt:t.length≤250)(hltb:tb.length≤250)(hop:op=29∨op=30) :
  Calls Tryz.prog 28 #[.agg #[.string nm,.int .i64 ln,.int .i64 pr,.bool rs,.int .i64 rg,v5,v6,.slice (some ⟨b,off,none⟩) ni c7,v8],.int .i64 at_,.agg #[.bool rb,.slice ab tb.length cb,.slice agb gb.length cgb],.slice at2 t.length ct,.slice ag g.length cg] w (FoPost (followC ⟨op,fa,fb,fc,fd⟩ at_ ⟨tb,gb⟩ t g) w):=by
 obtain⟨i0,hi,hz0,hz1,hz2⟩:=info_of info_nx
 have d0:=hc.op;have d1:=hc.fa;have d2:=hc.fb;have d3:=hc.fc;have d4:=hc.fd
 clear hc
 simp only at d0 d1 d2 d3 d4
 have hA:∀ o1 o2 o3 o4,Below w.heap.size w ((((w.alloc o1).alloc o2).alloc o3).alloc o4):=fun o1 o2 o3 o4=>((((Below.refl _ _).alloc (Nat.le_refl _) o1).alloc (by simp) o2).alloc (by simp;omega) o3).alloc (by simp;omega) o4
 have T3:Hid (∀ W,Below w.heap.size w W→IntsAt W (fun b=>b<W.heap.size) at2 t∧GusAt W (fun b=>b<W.heap.size) ag g):=fun W hW=>⟨(h3.keep hW hB).mono (fun b h=>Nat.lt_of_lt_of_le (hB b h) hW.size),(h4.keep hW hB).mono (fun b h=>Nat.lt_of_lt_of_le (hB b h) hW.size)⟩
 have hn1:=h1.1;have hn2:=h2.1;have hn3:=h3.1;have hn4:=h4.1
 have RR:Hid (followC ⟨op,fa,fb,fc,fd⟩ at_ ⟨tb,gb⟩ t g=[]):=by rcases hop with rfl | rfl<;>rfl
 rw[RR.out]
 rcases hop with rfl | rfl
 all_goals
  go_enter Tryz.func28,Tryz.ntmps28
  go_wp2_with fail
  go_ret
  exact fo_nil (hA _ _ _ _)
theorem l6followers_19 (fa fb fc fd:Int)(at_:Nat)(nm:ByteArray)(ln pr:Int)(rs:Bool)(rg:Int)(v5 v6 v8:Value)(b off ni c7:Nat)(rb:Bool)(tb t:List Int)(gb g:List GuD)(ab agb at2 ag:Option Addr)(cb cgb ct cg:Nat)(S:Nat→Prop)(w:World)(hB:∀ b,S b→b<w.heap.size)(hbl:b<w.heap.size)(hat:at_<ni)(hni:ni≤6000)(hc:InsCells w b (off+at_ * 5) ⟨19,fa,fb,fc,fd⟩)(h1:IntsAt w S ab tb)(h2:GusAt w S agb gb)(h3:IntsAt w S at2 t)(h4:GusAt w S ag g)(hlt:t.length≤250)(hltb:tb.length≤250)(hf0:0≤fa) :
  Calls Tryz.prog 28 #[.agg #[.string nm,.int .i64 ln,.int .i64 pr,.bool rs,.int .i64 rg,v5,v6,.slice (some ⟨b,off,none⟩) ni c7,v8],.int .i64 at_,.agg #[.bool rb,.slice ab tb.length cb,.slice agb gb.length cgb],.slice at2 t.length ct,.slice ag g.length cg] w (FoPost (followC ⟨19,fa,fb,fc,fd⟩ at_ ⟨tb,gb⟩ t g) w):=by
 obtain⟨i0,hi,hz0,hz1,hz2⟩:=info_of info_nx
 have d0:=hc.op;have d1:=hc.fa;have d2:=hc.fb;have d3:=hc.fc;have d4:=hc.fd
 clear hc
 simp only at d0 d1 d2 d3 d4
 have hA:∀ o1 o2 o3 o4,Below w.heap.size w ((((w.alloc o1).alloc o2).alloc o3).alloc o4):=fun o1 o2 o3 o4=>((((Below.refl _ _).alloc (Nat.le_refl _) o1).alloc (by simp) o2).alloc (by simp;omega) o3).alloc (by simp;omega) o4
 have T3:Hid (∀ W,Below w.heap.size w W→IntsAt W (fun b=>b<W.heap.size) at2 t∧GusAt W (fun b=>b<W.heap.size) ag g):=fun W hW=>⟨(h3.keep hW hB).mono (fun b h=>Nat.lt_of_lt_of_le (hB b h) hW.size),(h4.keep hW hB).mono (fun b h=>Nat.lt_of_lt_of_le (hB b h) hW.size)⟩
 have hn1:=h1.1;have hn2:=h2.1;have hn3:=h3.1;have hn4:=h4.1
 obtain⟨A,rfl⟩:=Int.eq_ofNat_of_zero_le hf0
 have RR:Hid (followC ⟨19,((A:Nat):Int),fb,fc,fd⟩ at_ ⟨tb,gb⟩ t g=[(A,⟨t,g⟩)]):=rfl
 rw[RR.out]
 go_enter Tryz.func28,Tryz.ntmps28
 go_wp2_with (first
  | (at_builtin;refine wpList_append_own _ rfl _ _ 75 rfl (w.heap.size+4) 78 i0 (.agg #[.int .i64 0,.bool false,.slice none 0 0,.slice none 0 0]) 4 64 Tryz.underlying75 hi hz0 hz1 hz2 rfl (by decide) _ _ _ rfl (World.ownsRow_nil _ _ _ _) ⟨w.heap.size+1+1+1+1,0,none⟩ 1 1 [.int .i64 ((A:Nat):Int),.bool true,.slice at2 t.length ct,.slice ag g.length cg] rfl rfl ?c1 ?c2 ?c3 ?c4 ?c5 ?_)
  | go_in)
 all_goals try (case c1=>intro j u hj;rcases j with _ | _ | _ | _ | _<;>simp at hj<;>(subst hj;simp[Addr.add,go_sem]))
 all_goals try (case c2=>first | (intro u hu;simp at hu;rcases hu with rfl | rfl | rfl | rfl<;>rfl) | (simp;done) | rfl)
 all_goals try (case c3=>first | (unfold maxLen;simp;done) | (unfold maxLen;omega) | (simp[maxLen];done))
 all_goals try (case c4=>first | (simp;done) | omega)
 all_goals try (case c5=>first | (simp;done) | (simp;omega) | omega)
 intro v1 w1 hown1 hgrow1 _
 have O1:Hid (OwnF w1 (w.heap.size+4) v1 [⟨((A:Nat):Int),at2,t.length,ct,ag,g.length,cg⟩]):=OwnF.push (t:=[]) hown1
 have B1:Hid (Below w.heap.size w w1):=((hA _ _ _ _).alloc (by simp;omega) _).grown hgrow1 (by simp;omega) (fun j hj=>by cases hj)
 clear hown1 hgrow1
 go_wp2_with fail
 go_ret
 exact fo_one ((unhide O1).base_le (by omega)) ⟨by simp,rfl,rfl,(unhide T3 _ (unhide B1)).1,(unhide T3 _ (unhide B1)).2⟩ (unhide B1)
theorem l6followers_j (op:Int)(fa fb fc fd:Int)(at_:Nat)(nm:ByteArray)(ln pr:Int)(rs:Bool)(rg:Int)(v5 v6 v8:Value)(b off ni c7:Nat)(rb:Bool)(tb t:List Int)(gb g:List GuD)(ab agb at2 ag:Option Addr)(cb cgb ct cg:Nat)(S:Nat→Prop)(w:World)(hB:∀ b,S b→b<w.heap.size)(hbl:b<w.heap.size)(hat:at_<ni)(hni:ni≤6000)(hc:InsCells w b (off+at_ * 5) ⟨op,fa,fb,fc,fd⟩)(h1:IntsAt w S ab tb)(h2:GusAt w S agb gb)(h3:IntsAt w S at2 t)(h4:GusAt w S ag g)(hlt:t.length≤250)(hltb:tb.length≤250)(hf0:0≤fb)(hop:op=20∨op=21∨op=38∨op=39) :
  Calls Tryz.prog 28 #[.agg #[.string nm,.int .i64 ln,.int .i64 pr,.bool rs,.int .i64 rg,v5,v6,.slice (some ⟨b,off,none⟩) ni c7,v8],.int .i64 at_,.agg #[.bool rb,.slice ab tb.length cb,.slice agb gb.length cgb],.slice at2 t.length ct,.slice ag g.length cg] w (FoPost (followC ⟨op,fa,fb,fc,fd⟩ at_ ⟨tb,gb⟩ t g) w):=by
 obtain⟨i0,hi,hz0,hz1,hz2⟩:=info_of info_nx
 have d0:=hc.op;have d1:=hc.fa;have d2:=hc.fb;have d3:=hc.fc;have d4:=hc.fd
 clear hc
 simp only at d0 d1 d2 d3 d4
 have hA:∀ o1 o2 o3 o4,Below w.heap.size w ((((w.alloc o1).alloc o2).alloc o3).alloc o4):=fun o1 o2 o3 o4=>((((Below.refl _ _).alloc (Nat.le_refl _) o1).alloc (by simp) o2).alloc (by simp;omega) o3).alloc (by simp;omega) o4
 have T3:Hid (∀ W,Below w.heap.size w W→IntsAt W (fun b=>b<W.heap.size) at2 t∧GusAt W (fun b=>b<W.heap.size) ag g):=fun W hW=>⟨(h3.keep hW hB).mono (fun b h=>Nat.lt_of_lt_of_le (hB b h) hW.size),(h4.keep hW hB).mono (fun b h=>Nat.lt_of_lt_of_le (hB b h) hW.size)⟩
 have hn1:=h1.1;have hn2:=h2.1;have hn3:=h3.1;have hn4:=h4.1
 obtain⟨B,rfl⟩:=Int.eq_ofNat_of_zero_le hf0
 have RR:Hid (followC ⟨op,fa,((B:Nat):Int),fc,fd⟩ at_ ⟨tb,gb⟩ t g=[(at_+1,⟨t,g⟩),(B,⟨t,g⟩)]):=by rcases hop with rfl | rfl | rfl | rfl<;>rfl
 rw[RR.out]
 obtain⟨o,ho⟩:∃ o,o=op:=⟨_,rfl⟩
 rcases hop with rfl | rfl | rfl | rfl
 all_goals
  go_enter Tryz.func28,Tryz.ntmps28
  go_wp2_with (first
   | (at_builtin;refine wpList_append_own _ rfl _ _ 75 rfl (w.heap.size+4) 78 i0 (.agg #[.int .i64 0,.bool false,.slice none 0 0,.slice none 0 0]) 4 64 Tryz.underlying75 hi hz0 hz1 hz2 rfl (by decide) _ _ _ rfl (World.ownsRow_nil _ _ _ _) ⟨w.heap.size+1+1+1+1,0,none⟩ 1 1 [.int .i64 ((at_:Int)+1),.bool true,.slice at2 t.length ct,.slice ag g.length cg] rfl rfl ?c1 ?c2 ?c3 ?c4 ?c5 ?_)
   | go_in)
  all_goals try (case c1=>intro j u hj;rcases j with _ | _ | _ | _ | _<;>simp at hj<;>(subst hj;simp[Addr.add,go_sem]))
  all_goals try (case c2=>first | (intro u hu;simp at hu;rcases hu with rfl | rfl | rfl | rfl<;>rfl) | (simp;done) | rfl)
  all_goals try (case c3=>first | (unfold maxLen;simp;done) | (unfold maxLen;omega) | (simp[maxLen];done))
  all_goals try (case c4=>first | (simp;done) | omega)
  all_goals try (case c5=>first | (simp;done) | (simp;omega) | omega)
  intro v1 w1 hown1 hgrow1 _
  have O1:Hid (OwnF w1 (w.heap.size+4) v1 [⟨(at_:Int)+1,at2,t.length,ct,ag,g.length,cg⟩]):=OwnF.push (t:=[]) hown1
  have B1:Hid (Below w.heap.size w w1):=((hA _ _ _ _).alloc (by simp;omega) _).grown hgrow1 (by simp;omega) (fun j hj=>by cases hj)
  have m0:w1.cell? ⟨w.heap.size+1+1,0,none⟩=some (.int .i64 o):=by rw[ho];exact hgrow1.cell (by simp[go_sem]) (by simp[Value.ownBlock])
  rw[ho]at m0
  have m1:w1.cell? ⟨w.heap.size+1+1,1,none⟩=some (.int .i64 fa):=hgrow1.cell (by simp[go_sem]) (by simp[Value.ownBlock])
  have m2:w1.cell? ⟨w.heap.size+1+1,2,none⟩=some (.int .i64 ((B:Nat):Int)):=hgrow1.cell (by simp[go_sem]) (by simp[Value.ownBlock])
  have m3:w1.cell? ⟨w.heap.size+1+1,3,none⟩=some (.int .i64 fc):=hgrow1.cell (by simp[go_sem]) (by simp[Value.ownBlock])
  have m4:w1.cell? ⟨w.heap.size+1+1,4,none⟩=some (.int .i64 fd):=hgrow1.cell (by simp[go_sem]) (by simp[Value.ownBlock])
  have n1:w1.cell? ⟨w.heap.size+1,1,none⟩=some (.slice ab tb.length cb):=hgrow1.cell (by simp[go_sem]) (by simp[Value.ownBlock])
  have n2:w1.cell? ⟨w.heap.size+1,2,none⟩=some (.slice agb gb.length cgb):=hgrow1.cell (by simp[go_sem]) (by simp[Value.ownBlock])
  have p0:w1.cell? ⟨w.heap.size+1+1+1,0,none⟩=some (.bool true):=hgrow1.cell (by simp[go_sem]) (by simp[Value.ownBlock])
  have p1:w1.cell? ⟨w.heap.size+1+1+1,1,none⟩=some (.slice at2 t.length ct):=hgrow1.cell (by simp[go_sem]) (by simp[Value.ownBlock])
  have p2:w1.cell? ⟨w.heap.size+1+1+1,2,none⟩=some (.slice ag g.length cg):=hgrow1.cell (by simp[go_sem]) (by simp[Value.ownBlock])
  have hs1:w.heap.size+1+1+1<w1.heap.size:=by have:=hgrow1.size;simp at this;omega
  have hs2:w.heap.size+1+1<w1.heap.size:=by omega
  have hs3:w.heap.size+1<w1.heap.size:=by omega
  clear hown1 hgrow1
  go_wp2_with (first
   | (at_builtin;refine wpList_append_own _ rfl _ _ 75 rfl (w.heap.size+4) 78 i0 (.agg #[.int .i64 0,.bool false,.slice none 0 0,.slice none 0 0]) 4 64 Tryz.underlying75 hi hz0 hz1 hz2 rfl (by decide) _ _ _ rfl ((unhide O1).alloc _) ⟨w1.heap.size,0,none⟩ 1 1 [.int .i64 ((B:Nat):Int),.bool true,.slice at2 t.length ct,.slice ag g.length cg] rfl rfl ?c1 ?c2 ?c3 ?c4 ?c5 ?_)
   | go_in)
  all_goals try (case c1=>intro j u hj;rcases j with _ | _ | _ | _ | _<;>simp at hj<;>(subst hj;simp[Addr.add,go_sem]))
  all_goals try (case c2=>first | (intro u hu;simp at hu;rcases hu with rfl | rfl | rfl | rfl<;>rfl) | (simp;done) | rfl)
  all_goals try (case c3=>first | (unfold maxLen;simp;done) | (unfold maxLen;omega) | (simp[maxLen];done))
  all_goals try (case c4=>first | (simp;done) | omega)
  all_goals try (case c5=>first | (simp;done) | (simp;omega) | omega)
  intro v2 w2 hown2 hgrow2 _
  have O2:Hid (OwnF w2 (w.heap.size+4) v2 [⟨(at_:Int)+1,at2,t.length,ct,ag,g.length,cg⟩,⟨((B:Nat):Int),at2,t.length,ct,ag,g.length,cg⟩]):=OwnF.push (t:=[⟨(at_:Int)+1,at2,t.length,ct,ag,g.length,cg⟩]) hown2
  have B2:Hid (Below w.heap.size w w2):=((unhide B1).alloc (by omega) _).grown hgrow2 (by simp;omega) (fun j hj=>by have:=((unhide O1).lt j hj).1;omega)
  clear hown2 hgrow2
  go_wp2_with fail
  go_ret
  exact fo_two ((unhide O2).base_le (by omega)) ⟨by simp,rfl,rfl,(unhide T3 _ (unhide B2)).1,(unhide T3 _ (unhide B2)).2⟩ ⟨by simp,rfl,rfl,(unhide T3 _ (unhide B2)).1,(unhide T3 _ (unhide B2)).2⟩ (unhide B2)
theorem l6followers_41 (fa fb fc fd:Int)(at_:Nat)(nm:ByteArray)(ln pr:Int)(rs:Bool)(rg:Int)(v5 v6 v8:Value)(b off ni c7:Nat)(rb:Bool)(tb t:List Int)(gb g:List GuD)(ab agb at2 ag:Option Addr)(cb cgb ct cg:Nat)(S:Nat→Prop)(w:World)(hB:∀ b,S b→b<w.heap.size)(hbl:b<w.heap.size)(hat:at_<ni)(hni:ni≤6000)(hc:InsCells w b (off+at_ * 5) ⟨41,fa,fb,fc,fd⟩)(h1:IntsAt w S ab tb)(h2:GusAt w S agb gb)(h3:IntsAt w S at2 t)(h4:GusAt w S ag g)(hlt:t.length≤250)(hltb:tb.length≤250)(hf0:0≤fb)(hf1:0≤fc)(hf2:fc<t.length)(htt:tb.length=t.length) :
  Calls Tryz.prog 28 #[.agg #[.string nm,.int .i64 ln,.int .i64 pr,.bool rs,.int .i64 rg,v5,v6,.slice (some ⟨b,off,none⟩) ni c7,v8],.int .i64 at_,.agg #[.bool rb,.slice ab tb.length cb,.slice agb gb.length cgb],.slice at2 t.length ct,.slice ag g.length cg] w (FoPost (followC ⟨41,fa,fb,fc,fd⟩ at_ ⟨tb,gb⟩ t g) w):=by
 obtain⟨i0,hi,hz0,hz1,hz2⟩:=info_of info_nx
 have d0:=hc.op;have d1:=hc.fa;have d2:=hc.fb;have d3:=hc.fc;have d4:=hc.fd
 clear hc
 simp only at d0 d1 d2 d3 d4
 have hA:∀ o1 o2 o3 o4,Below w.heap.size w ((((w.alloc o1).alloc o2).alloc o3).alloc o4):=fun o1 o2 o3 o4=>((((Below.refl _ _).alloc (Nat.le_refl _) o1).alloc (by simp) o2).alloc (by simp;omega) o3).alloc (by simp;omega) o4
 have T3:Hid (∀ W,Below w.heap.size w W→IntsAt W (fun b=>b<W.heap.size) at2 t∧GusAt W (fun b=>b<W.heap.size) ag g):=fun W hW=>⟨(h3.keep hW hB).mono (fun b h=>Nat.lt_of_lt_of_le (hB b h) hW.size),(h4.keep hW hB).mono (fun b h=>Nat.lt_of_lt_of_le (hB b h) hW.size)⟩
 have hn1:=h1.1;have hn2:=h2.1;have hn3:=h3.1;have hn4:=h4.1
 obtain⟨B,rfl⟩:=Int.eq_ofNat_of_zero_le hf0
 obtain⟨C,rfl⟩:=Int.eq_ofNat_of_zero_le hf1
 have hC:C<t.length:=by omega
 have hCb:C<tb.length:=by omega
 have HTT:=hide htt
 clear htt hf2
 have RR:Hid (followC ⟨41,fa,((B:Nat):Int),((C:Nat):Int),fd⟩ at_ ⟨tb,gb⟩ t g=[(at_+1,⟨t,g⟩),(B,⟨t.set C (tyAt tb C),g⟩)]):=rfl
 rw[RR.out]
 go_enter Tryz.func28,Tryz.ntmps28
 go_wp2_with (first
  | (at_builtin;refine wpList_append_own _ rfl _ _ 75 rfl (w.heap.size+4) 78 i0 (.agg #[.int .i64 0,.bool false,.slice none 0 0,.slice none 0 0]) 4 64 Tryz.underlying75 hi hz0 hz1 hz2 rfl (by decide) _ _ _ rfl (World.ownsRow_nil _ _ _ _) ⟨w.heap.size+1+1+1+1,0,none⟩ 1 1 [.int .i64 ((at_:Int)+1),.bool true,.slice at2 t.length ct,.slice ag g.length cg] rfl rfl ?c1 ?c2 ?c3 ?c4 ?c5 ?_)
  | go_in)
 all_goals try (case c1=>intro j u hj;rcases j with _ | _ | _ | _ | _<;>simp at hj<;>(subst hj;simp[Addr.add,go_sem]))
 all_goals try (case c2=>first | (intro u hu;simp at hu;rcases hu with rfl | rfl | rfl | rfl<;>rfl) | (simp;done) | rfl)
 all_goals try (case c3=>first | (unfold maxLen;simp;done) | (unfold maxLen;omega) | (simp[maxLen];done))
 all_goals try (case c4=>first | (simp;done) | omega)
 all_goals try (case c5=>first | (simp;done) | (simp;omega) | omega)
 intro v1 w1 hown1 hgrow1 _
 have O1:Hid (OwnF w1 (w.heap.size+4) v1 [⟨(at_:Int)+1,at2,t.length,ct,ag,g.length,cg⟩]):=OwnF.push (t:=[]) hown1
 have B1:Hid (Below w.heap.size w w1):=((hA _ _ _ _).alloc (by simp;omega) _).grown hgrow1 (by simp;omega) (fun j hj=>by cases hj)
 have m0:w1.cell? ⟨w.heap.size+1+1,0,none⟩=some (.int .i64 41):=hgrow1.cell (by simp[go_sem]) (by simp[Value.ownBlock])
 have m1:w1.cell? ⟨w.heap.size+1+1,1,none⟩=some (.int .i64 fa):=hgrow1.cell (by simp[go_sem]) (by simp[Value.ownBlock])
 have m2:w1.cell? ⟨w.heap.size+1+1,2,none⟩=some (.int .i64 ((B:Nat):Int)):=hgrow1.cell (by simp[go_sem]) (by simp[Value.ownBlock])
 have m3:w1.cell? ⟨w.heap.size+1+1,3,none⟩=some (.int .i64 ((C:Nat):Int)):=hgrow1.cell (by simp[go_sem]) (by simp[Value.ownBlock])
 have m4:w1.cell? ⟨w.heap.size+1+1,4,none⟩=some (.int .i64 fd):=hgrow1.cell (by simp[go_sem]) (by simp[Value.ownBlock])
 have n1:w1.cell? ⟨w.heap.size+1,1,none⟩=some (.slice ab tb.length cb):=hgrow1.cell (by simp[go_sem]) (by simp[Value.ownBlock])
 have n2:w1.cell? ⟨w.heap.size+1,2,none⟩=some (.slice agb gb.length cgb):=hgrow1.cell (by simp[go_sem]) (by simp[Value.ownBlock])
 have p0:w1.cell? ⟨w.heap.size+1+1+1,0,none⟩=some (.bool true):=hgrow1.cell (by simp[go_sem]) (by simp[Value.ownBlock])
 have p1:w1.cell? ⟨w.heap.size+1+1+1,1,none⟩=some (.slice at2 t.length ct):=hgrow1.cell (by simp[go_sem]) (by simp[Value.ownBlock])
 have p2:w1.cell? ⟨w.heap.size+1+1+1,2,none⟩=some (.slice ag g.length cg):=hgrow1.cell (by simp[go_sem]) (by simp[Value.ownBlock])
 have hs1:w.heap.size+1+1+1<w1.heap.size:=by have:=hgrow1.size;simp at this;omega
 have hs2:w.heap.size+1+1<w1.heap.size:=by omega
 have hs3:w.heap.size+1<w1.heap.size:=by omega
 clear hown1 hgrow1
 go_wp2_with fail
 refine(l6copy_any at2 t ct S w1 (h3.keep (unhide B1) hB) (fun b h=>Nat.lt_of_lt_of_le (hB b h) (unhide B1).size) (by omega)).mono ?_
 rintro e w2 ⟨v2,rfl,ho2,hb2⟩
 obtain⟨g2,cap2,hv2,hg2,hg2l,hc2⟩:=ho2.at (by omega)
 subst hv2
 obtain⟨hcc,hff⟩:=bcell hb2
 have q0:w2.cell? ⟨w.heap.size+1+1,0,none⟩=some (.int .i64 41):=(hcc _ _ (by omega)).trans m0
 have q1:w2.cell? ⟨w.heap.size+1+1,1,none⟩=some (.int .i64 fa):=(hcc _ _ (by omega)).trans m1
 have q2:w2.cell? ⟨w.heap.size+1+1,2,none⟩=some (.int .i64 ((B:Nat):Int)):=(hcc _ _ (by omega)).trans m2
 have q3:w2.cell? ⟨w.heap.size+1+1,3,none⟩=some (.int .i64 ((C:Nat):Int)):=(hcc _ _ (by omega)).trans m3
 have q4:w2.cell? ⟨w.heap.size+1+1,4,none⟩=some (.int .i64 fd):=(hcc _ _ (by omega)).trans m4
 have qn1:w2.cell? ⟨w.heap.size+1,1,none⟩=some (.slice ab tb.length cb):=(hcc _ _ (by omega)).trans n1
 have qn2:w2.cell? ⟨w.heap.size+1,2,none⟩=some (.slice agb gb.length cgb):=(hcc _ _ (by omega)).trans n2
 have hw2:=hb2.size
 have hs4:w.heap.size+1+1<w2.heap.size:=by omega
 have hs5:w.heap.size+1<w2.heap.size:=by omega
 obtain⟨b3,off3,rfl,hbS3,hc3⟩:=(h1.keep ((unhide B1).trans (hb2.mono (unhide B1).size)) hB).2 (by omega)
 have r3:=hc3 C (by omega)
 have hb3:b3<w2.heap.size:=Nat.lt_of_lt_of_le (hB b3 hbS3) (by have:=(unhide B1).size;omega)
 have cC:=hc2 C hC
 have zC:=ho2.frozen rfl C
 have hne3:b3≠g2:=by have:=hB b3 hbS3;have:=(unhide B1).size;omega
 have HY:Hid (tyAt tb C=tb[C]?.getD 0):=rfl
 clear hc3
 generalize tb[C]?.getD 0=y at *
 have OT:=hide ((ho2.set rfl C y))
 have B2s:Hid (Below w1.heap.size w1 (w2.setCell ⟨g2,C,none⟩ (.int .i64 y))):=hb2.setCell hg2 _
 have M0:=hide m0;have M2:=hide m2;have M1:=hide m1;have P1:=hide p1;have P2:=hide p2
 clear hc2 ho2 hb2 hcc hff m0 m1 m2 m3 m4 n1 n2 p0 p1 p2
 go_wp2_with fail
 go_region
 generalize hw3:(w2.setCell ⟨g2,C,none⟩ (.int .i64 y)).drew=w3 at *
 have hb3:Below w1.heap.size w1 w3:=by rw[←hw3];exact(unhide B2s).drew
 have O3:Hid (OwnI w3 w1.heap.size (.slice (some ⟨g2,0,none⟩) t.length cap2) (t.set C y)):=by show OwnI _ _ _ _;rw[←hw3];exact World.ownsRow.drew (unhide OT)
 obtain⟨hcc,hff⟩:=bcell hb3
 have q0:=(hcc _ _ (by omega:w.heap.size+1+1<w1.heap.size)).trans M0.out
 have q2:=(hcc _ _ (by omega:w.heap.size+1+1<w1.heap.size)).trans M2.out
 have OF:=hide ((unhide O1).below hb3)
 have B3:=hide ((unhide B1).trans (hb3.mono (unhide B1).size))
 have hw3s:=hb3.size
 have hs6:w.heap.size+1+1<w3.heap.size:=by omega
 have hg3:g2<w3.heap.size:=by rw[←hw3];simp;omega
 clear hw3 hb3 hcc hff cC zC OT B2s
 go_wp2_with (first
  | (at_builtin;refine wpList_append_own _ rfl _ _ 75 rfl (w.heap.size+4) 78 i0 (.agg #[.int .i64 0,.bool false,.slice none 0 0,.slice none 0 0]) 4 64 Tryz.underlying75 hi hz0 hz1 hz2 rfl (by decide) _ _ _ rfl ((unhide OF).alloc _) ⟨w3.heap.size,0,none⟩ 1 1 [.int .i64 ((B:Nat):Int),.bool true,.slice (some ⟨g2,0,none⟩) t.length cap2,.slice ag g.length cg] rfl rfl ?c1 ?c2 ?c3 ?c4 ?c5 ?_)
  | go_in)
 all_goals try (case c1=>intro j u hj;rcases j with _ | _ | _ | _ | _<;>simp at hj<;>(subst hj;simp[Addr.add,go_sem]))
 all_goals try (case c2=>first | (intro u hu;simp at hu;rcases hu with rfl | rfl | rfl | rfl<;>rfl) | (simp;done) | rfl)
 all_goals try (case c3=>first | (unfold maxLen;simp;done) | (unfold maxLen;omega) | (simp[maxLen];done))
 all_goals try (case c4=>first | (simp;done) | omega)
 all_goals try (case c5=>first | (simp;done) | (simp;omega) | omega)
 intro v4 w4 hown4 hgrow4 _
 have O4:Hid (OwnF w4 (w.heap.size+4) v4 [⟨(at_:Int)+1,at2,t.length,ct,ag,g.length,cg⟩,⟨((B:Nat):Int),some ⟨g2,0,none⟩,t.length,cap2,ag,g.length,cg⟩]):=OwnF.push (t:=[⟨(at_:Int)+1,at2,t.length,ct,ag,g.length,cg⟩]) hown4
 have B4:Hid (Below w.heap.size w w4):=((unhide B3).alloc (by omega) _).grown hgrow4 (by simp;omega) (fun j hj=>by have:=((unhide O1).lt j hj).1;omega)
 have T4:Hid (IntsAt w4 (fun b=>b<w4.heap.size) (some ⟨g2,0,none⟩) (t.set C y)):=by
  have hk:OwnI w4 w1.heap.size (.slice (some ⟨g2,0,none⟩) t.length cap2) (t.set C y):=OwnI.kept ((unhide O3).alloc _) hgrow4 (.inr (fun e=>by
   have:=((unhide O1).lt g2 e.symm).2
   omega))
  obtain⟨g',cap',hv',_,hl',hc'⟩:=hk.at (by simp;omega)
  have hg':g'=g2:=by injection hv' with h;injection h with h;exact(congrArg Addr.block h).symm
  subst hg'
  exact⟨by simp;omega,fun _=>⟨g',0,rfl,hl',fun j hj=>by rw[Nat.zero_add];exact hc' j hj⟩⟩
 rw[←HY.out]at T4
 clear hown4 hgrow4
 go_wp2_with fail
 go_ret
 exact fo_two ((unhide O4).base_le (by omega)) ⟨by simp,rfl,rfl,(unhide T3 _ (unhide B4)).1,(unhide T3 _ (unhide B4)).2⟩ ⟨rfl,by simp,rfl,unhide T4,(unhide T3 _ (unhide B4)).2⟩ (unhide B4)
theorem l6followers_31 (fa fb fc fd:Int)(at_:Nat)(nm:ByteArray)(ln pr:Int)(rs:Bool)(rg:Int)(v5 v6 v8:Value)(b off ni c7:Nat)(rb:Bool)(tb t:List Int)(gb g:List GuD)(ab agb at2 ag:Option Addr)(cb cgb ct cg:Nat)(S:Nat→Prop)(w:World)(hB:∀ b,S b→b<w.heap.size)(hbl:b<w.heap.size)(hat:at_<ni)(hni:ni≤6000)(hc:InsCells w b (off+at_ * 5) ⟨31,fa,fb,fc,fd⟩)(h1:IntsAt w S ab tb)(h2:GusAt w S agb gb)(h3:IntsAt w S at2 t)(h4:GusAt w S ag g)(hlt:t.length≤250)(hltb:tb.length≤250)(hf0:0≤fb)(hf1:0≤fa)(hf2:fb+2≤tb.length) :
  Calls Tryz.prog 28 #[.agg #[.string nm,.int .i64 ln,.int .i64 pr,.bool rs,.int .i64 rg,v5,v6,.slice (some ⟨b,off,none⟩) ni c7,v8],.int .i64 at_,.agg #[.bool rb,.slice ab tb.length cb,.slice agb gb.length cgb],.slice at2 t.length ct,.slice ag g.length cg] w (FoPost (followC ⟨31,fa,fb,fc,fd⟩ at_ ⟨tb,gb⟩ t g) w):=by
 obtain⟨i0,hi,hz0,hz1,hz2⟩:=info_of info_nx
 have d0:=hc.op;have d1:=hc.fa;have d2:=hc.fb;have d3:=hc.fc;have d4:=hc.fd
 clear hc
 simp only at d0 d1 d2 d3 d4
 have hA:∀ o1 o2 o3 o4,Below w.heap.size w ((((w.alloc o1).alloc o2).alloc o3).alloc o4):=fun o1 o2 o3 o4=>((((Below.refl _ _).alloc (Nat.le_refl _) o1).alloc (by simp) o2).alloc (by simp;omega) o3).alloc (by simp;omega) o4
 have T3:Hid (∀ W,Below w.heap.size w W→IntsAt W (fun b=>b<W.heap.size) at2 t∧GusAt W (fun b=>b<W.heap.size) ag g):=fun W hW=>⟨(h3.keep hW hB).mono (fun b h=>Nat.lt_of_lt_of_le (hB b h) hW.size),(h4.keep hW hB).mono (fun b h=>Nat.lt_of_lt_of_le (hB b h) hW.size)⟩
 have hn1:=h1.1;have hn2:=h2.1;have hn3:=h3.1;have hn4:=h4.1
 obtain⟨B,rfl⟩:=Int.eq_ofNat_of_zero_le hf0
 obtain⟨A,rfl⟩:=Int.eq_ofNat_of_zero_le hf1
 have hB2:B+2≤tb.length:=by omega
 have RR:Hid (followC ⟨31,((A:Nat):Int),((B:Nat):Int),fc,fd⟩ at_ ⟨tb,gb⟩ t g=[(at_+1,⟨t,g⟩),(A,⟨handC ⟨31,((A:Nat):Int),((B:Nat):Int),fc,fd⟩ tb,gb⟩)]):=rfl
 rw[RR.out]
 have HH:Hid (handC ⟨31,((A:Nat):Int),((B:Nat):Int),fc,fd⟩ tb=((zeroTo tb B (tb.length-B)).set B 1).set (B+1) 1):=by
  show _=_
  rw[zeroTo_end tb B (by omega)]
  rfl
 generalize handC ⟨31,((A:Nat):Int),((B:Nat):Int),fc,fd⟩ tb=hnd at *
 have T5:Hid (∀ W,Below w.heap.size w W→GusAt W (fun b=>b<W.heap.size) agb gb):=fun W hW=>(h2.keep hW hB).mono (fun b h=>Nat.lt_of_lt_of_le (hB b h) hW.size)
 clear hf2
 go_enter Tryz.func28,Tryz.ntmps28
 go_wp2_with (first
  | (at_builtin;refine wpList_append_own _ rfl _ _ 75 rfl (w.heap.size+4) 78 i0 (.agg #[.int .i64 0,.bool false,.slice none 0 0,.slice none 0 0]) 4 64 Tryz.underlying75 hi hz0 hz1 hz2 rfl (by decide) _ _ _ rfl (World.ownsRow_nil _ _ _ _) ⟨w.heap.size+1+1+1+1,0,none⟩ 1 1 [.int .i64 ((at_:Int)+1),.bool true,.slice at2 t.length ct,.slice ag g.length cg] rfl rfl ?c1 ?c2 ?c3 ?c4 ?c5 ?_)
  | go_in)
 all_goals try (case c1=>intro j u hj;rcases j with _ | _ | _ | _ | _<;>simp at hj<;>(subst hj;simp[Addr.add,go_sem]))
 all_goals try (case c2=>first | (intro u hu;simp at hu;rcases hu with rfl | rfl | rfl | rfl<;>rfl) | (simp;done) | rfl)
 all_goals try (case c3=>first | (unfold maxLen;simp;done) | (unfold maxLen;omega) | (simp[maxLen];done))
 all_goals try (case c4=>first | (simp;done) | omega)
 all_goals try (case c5=>first | (simp;done) | (simp;omega) | omega)
 intro v1 w1 hown1 hgrow1 _
 have O1:Hid (OwnF w1 (w.heap.size+4) v1 [⟨(at_:Int)+1,at2,t.length,ct,ag,g.length,cg⟩]):=OwnF.push (t:=[]) hown1
 have B1:Hid (Below w.heap.size w w1):=((hA _ _ _ _).alloc (by simp;omega) _).grown hgrow1 (by simp;omega) (fun j hj=>by cases hj)
 have m0:w1.cell? ⟨w.heap.size+1+1,0,none⟩=some (.int .i64 31):=hgrow1.cell (by simp[go_sem]) (by simp[Value.ownBlock])
 have m1:w1.cell? ⟨w.heap.size+1+1,1,none⟩=some (.int .i64 ((A:Nat):Int)):=hgrow1.cell (by simp[go_sem]) (by simp[Value.ownBlock])
 have m2:w1.cell? ⟨w.heap.size+1+1,2,none⟩=some (.int .i64 ((B:Nat):Int)):=hgrow1.cell (by simp[go_sem]) (by simp[Value.ownBlock])
 have m3:w1.cell? ⟨w.heap.size+1+1,3,none⟩=some (.int .i64 fc):=hgrow1.cell (by simp[go_sem]) (by simp[Value.ownBlock])
 have m4:w1.cell? ⟨w.heap.size+1+1,4,none⟩=some (.int .i64 fd):=hgrow1.cell (by simp[go_sem]) (by simp[Value.ownBlock])
 have n1:w1.cell? ⟨w.heap.size+1,1,none⟩=some (.slice ab tb.length cb):=hgrow1.cell (by simp[go_sem]) (by simp[Value.ownBlock])
 have n2:w1.cell? ⟨w.heap.size+1,2,none⟩=some (.slice agb gb.length cgb):=hgrow1.cell (by simp[go_sem]) (by simp[Value.ownBlock])
 have p0:w1.cell? ⟨w.heap.size+1+1+1,0,none⟩=some (.bool true):=hgrow1.cell (by simp[go_sem]) (by simp[Value.ownBlock])
 have p1:w1.cell? ⟨w.heap.size+1+1+1,1,none⟩=some (.slice at2 t.length ct):=hgrow1.cell (by simp[go_sem]) (by simp[Value.ownBlock])
 have p2:w1.cell? ⟨w.heap.size+1+1+1,2,none⟩=some (.slice ag g.length cg):=hgrow1.cell (by simp[go_sem]) (by simp[Value.ownBlock])
 have hs1:w.heap.size+1+1+1<w1.heap.size:=by have:=hgrow1.size;simp at this;omega
 have hs2:w.heap.size+1+1<w1.heap.size:=by omega
 have hs3:w.heap.size+1<w1.heap.size:=by omega
 clear hown1 hgrow1
 go_wp2_with fail
 refine(l6copy_any ab tb cb S w1 (h1.keep (unhide B1) hB) (fun b h=>Nat.lt_of_lt_of_le (hB b h) (unhide B1).size) (by omega)).mono ?_
 rintro e w2 ⟨v2,rfl,ho2,hb2⟩
 obtain⟨g2,cap2,hv2,hg2,hg2l,hc2⟩:=ho2.at (by omega)
 subst hv2
 obtain⟨hcc,hff⟩:=bcell hb2
 have q0:w2.cell? ⟨w.heap.size+1+1,0,none⟩=some (.int .i64 31):=(hcc _ _ (by omega)).trans m0
 have q1:w2.cell? ⟨w.heap.size+1+1,1,none⟩=some (.int .i64 ((A:Nat):Int)):=(hcc _ _ (by omega)).trans m1
 have q2:w2.cell? ⟨w.heap.size+1+1,2,none⟩=some (.int .i64 ((B:Nat):Int)):=(hcc _ _ (by omega)).trans m2
 have q3:w2.cell? ⟨w.heap.size+1+1,3,none⟩=some (.int .i64 fc):=(hcc _ _ (by omega)).trans m3
 have q4:w2.cell? ⟨w.heap.size+1+1,4,none⟩=some (.int .i64 fd):=(hcc _ _ (by omega)).trans m4
 have qn1:w2.cell? ⟨w.heap.size+1,1,none⟩=some (.slice ab tb.length cb):=(hcc _ _ (by omega)).trans n1
 have qn2:w2.cell? ⟨w.heap.size+1,2,none⟩=some (.slice agb gb.length cgb):=(hcc _ _ (by omega)).trans n2
 have hw2:=hb2.size
 have hs4:w.heap.size+1+1<w2.heap.size:=by omega
 have hs5:w.heap.size+1<w2.heap.size:=by omega
 have HO2:=hide ho2
 have M0:=hide m0;have M2:=hide m2;have M1:=hide m1;have N2:=hide n2
 have HB2:=hide hb2
 clear hc2 ho2 hb2 hcc hff m0 m1 m2 m3 m4 n1 n2 p0 p1 p2
 go_wp2_with fail
 go_loopg [16] (tb.length-B) (fun gg i wr=>∃(d:Nat),d+gg=tb.length-B∧i=.int .i64 ((B+d:Nat):Int)∧OwnI wr w1.heap.size (.slice (some ⟨g2,0,none⟩) tb.length cap2) (zeroTo tb B d)∧Below w1.heap.size w1 wr)
 case atStart=>exact⟨0,by omega,rfl,unhide HO2,unhide HB2⟩
 case round=>
  clear q0 q1 q2 q3 q4 qn1 qn2 HO2 HB2
  obtain⟨d,hd,rfl,ho,hb⟩:=hrel
  obtain⟨g',cap',hv',hgb,hgl,hc'⟩:=ho.at (by rw[zeroTo_len];omega)
  rw[zeroTo_len]at hv' hc'
  have hg':g2=g':=by injection hv' with h;injection h with h;exact congrArg Addr.block h
  subst hg'
  have hz:=fun j=>ho.frozen (zeroTo_len tb B d).symm j
  have hws:=hb.size
  clear hv'
  by_cases hlt:B+d<tb.length
  ·have cj:=hc' (B+d) hlt
   have zj:=hz (B+d)
   have HO:=hide ho
   have HBB:=hide hb
   clear hc' hz ho hb
   go_wp2_with fail
   go_roundg (tb.length-B-(d+1))
   case measure=>omega
   case rel=>exact⟨d+1,by omega,by go_num,(unhide HO).set (zeroTo_len tb B d).symm (B+d) 0,(unhide HBB).setCell (by show w1.heap.size≤g2;omega) _⟩
  ·have hde:d=tb.length-B:=by omega
   have HO:=hide ho
   rw[hde]at HO
   have c1:=hc' B (by omega)
   have c2:=hc' (B+1) (by omega)
   have z1:=hz B;have z2:=hz (B+1)
   obtain⟨hcc,hff⟩:=bcell hb
   have q0:=(hcc _ _ (by omega:w.heap.size+1+1<w1.heap.size)).trans M0.out
   have q1:=(hcc _ _ (by omega:w.heap.size+1+1<w1.heap.size)).trans M1.out
   have q2:=(hcc _ _ (by omega:w.heap.size+1+1<w1.heap.size)).trans M2.out
   have qn2:=(hcc _ _ (by omega:w.heap.size+1<w1.heap.size)).trans N2.out
   have hs6:w.heap.size+1+1<wr.heap.size:=by omega
   have hs7:w.heap.size+1<wr.heap.size:=by omega
   have hne1:g2≠w.heap.size+1+1:=by omega
   have hne2:g2≠w.heap.size+1:=by omega
   have hne3:¬w.heap.size+1+1=g2:=by omega
   have hne4:¬w.heap.size+1=g2:=by omega
   have O3:Hid (OwnI ((wr.setCell ⟨g2,B,none⟩ (.int .i64 1)).setCell ⟨g2,B+1,none⟩ (.int .i64 1)) w1.heap.size (.slice (some ⟨g2,0,none⟩) tb.length cap2) hnd):=by
    show OwnI _ _ _ _
    rw[HH.out]
    exact((unhide HO).set (by rw[zeroTo_len]) B 1).set (by rw[List.length_set,zeroTo_len]) (B+1) 1
   have B3:Hid (Below w1.heap.size w1 ((wr.setCell ⟨g2,B,none⟩ (.int .i64 1)).setCell ⟨g2,B+1,none⟩ (.int .i64 1))):=(hb.setCell (by show w1.heap.size≤g2;omega) _).setCell (by show w1.heap.size≤g2;omega) _
   have OF:=hide ((unhide O1).below (unhide B3))
   have B5:=hide ((unhide B1).trans ((unhide B3).mono (unhide B1).size))
   clear hcc hff hc' hz ho hb HO hde hd
   go_wp2_with (first
    | (at_builtin;refine wpList_append_own _ rfl _ _ 75 rfl (w.heap.size+4) 78 i0 (.agg #[.int .i64 0,.bool false,.slice none 0 0,.slice none 0 0]) 4 64 Tryz.underlying75 hi hz0 hz1 hz2 rfl (by decide) _ _ _ rfl ((unhide OF).alloc _) ⟨wr.heap.size,0,none⟩ 1 1 [.int .i64 ((A:Nat):Int),.bool true,.slice (some ⟨g2,0,none⟩) tb.length cap2,.slice agb gb.length cgb] rfl rfl ?c1 ?c2 ?c3 ?c4 ?c5 ?_)
    | go_in)
   all_goals try (case c1=>intro j u hj;rcases j with _ | _ | _ | _ | _<;>simp at hj<;>(subst hj;simp[Addr.add,go_sem]))
   all_goals try (case c2=>first | (intro u hu;simp at hu;rcases hu with rfl | rfl | rfl | rfl<;>rfl) | (simp;done) | rfl)
   all_goals try (case c3=>first | (unfold maxLen;simp;done) | (unfold maxLen;omega) | (simp[maxLen];done))
   all_goals try (case c4=>first | (simp;done) | omega)
   all_goals try (case c5=>first | (simp;done) | (simp;omega) | omega)
   intro v4 w4 hown4 hgrow4 _
   have O4:Hid (OwnF w4 (w.heap.size+4) v4 [⟨(at_:Int)+1,at2,t.length,ct,ag,g.length,cg⟩,⟨((A:Nat):Int),some ⟨g2,0,none⟩,tb.length,cap2,agb,gb.length,cgb⟩]):=OwnF.push (t:=[⟨(at_:Int)+1,at2,t.length,ct,ag,g.length,cg⟩]) hown4
   have B4:Hid (Below w.heap.size w w4):=((unhide B5).alloc (by simp;omega) _).grown hgrow4 (by simp;omega) (fun j hj=>by have:=((unhide O1).lt j hj).1;omega)
   have HL:Hid (hnd.length=tb.length):=by show _=_;rw[HH.out,List.length_set,List.length_set,zeroTo_len]
   have T4:Hid (IntsAt w4 (fun b=>b<w4.heap.size) (some ⟨g2,0,none⟩) hnd):=by
    have hk:OwnI w4 w1.heap.size (.slice (some ⟨g2,0,none⟩) tb.length cap2) hnd:=OwnI.kept ((unhide O3).alloc _) hgrow4 (.inr (fun e=>by
     have:=((unhide O1).lt g2 e.symm).2
     omega))
    obtain⟨g',cap',hv',_,hl',hc'⟩:=hk.at (by rw[HL.out];omega)
    have hg':g'=g2:=by injection hv' with h;injection h with h;exact(congrArg Addr.block h).symm
    subst hg'
    exact⟨by rw[HL.out];omega,fun _=>⟨g',0,rfl,hl',fun j hj=>by rw[Nat.zero_add];exact hc' j hj⟩⟩
   clear hown4 hgrow4
   go_wp2_with fail
   go_ret
   exact fo_two ((unhide O4).base_le (by omega)) ⟨by simp,rfl,rfl,(unhide T3 _ (unhide B4)).1,(unhide T3 _ (unhide B4)).2⟩ ⟨rfl,HL.out.symm,rfl,unhide T4,unhide T5 _ (unhide B4)⟩ (unhide B4)
def FoFits (op fa fb fc:Int)(n:Nat):Prop:=(op=19∨op=31→0≤fa)∧(op=20∨op=21∨op=38∨op=39∨op=41∨op=31→0≤fb)∧(op=41→0≤fc∧fc<n)∧(op=31→fb+2≤n)
theorem l6followers_any (op:Int)(fa fb fc fd:Int)(at_:Nat)(nm:ByteArray)(ln pr:Int)(rs:Bool)(rg:Int)(v5 v6 v8:Value)(b off ni c7:Nat)(rb:Bool)(tb t:List Int)(gb g:List GuD)(ab agb at2 ag:Option Addr)(cb cgb ct cg:Nat)(S:Nat→Prop)(w:World)(hB:∀ b,S b→b<w.heap.size)(hbl:b<w.heap.size)(hat:at_<ni)(hni:ni≤6000)(hc:InsCells w b (off+at_ * 5) ⟨op,fa,fb,fc,fd⟩)(h1:IntsAt w S ab tb)(h2:GusAt w S agb gb)(h3:IntsAt w S at2 t)(h4:GusAt w S ag g)(hlt:t.length≤250)(hltb:tb.length≤250)(htt:tb.length=t.length)(hf:FoFits op fa fb fc t.length) :
  Calls Tryz.prog 28 #[.agg #[.string nm,.int .i64 ln,.int .i64 pr,.bool rs,.int .i64 rg,v5,v6,.slice (some ⟨b,off,none⟩) ni c7,v8],.int .i64 at_,.agg #[.bool rb,.slice ab tb.length cb,.slice agb gb.length cgb],.slice at2 t.length ct,.slice ag g.length cg] w (FoPost (followC ⟨op,fa,fb,fc,fd⟩ at_ ⟨tb,gb⟩ t g) w):=by
 obtain⟨e1,e2,e3,e4⟩:=hf
 by_cases k29:op=29
 ·exact l6followers_e op fa fb fc fd at_ nm ln pr rs rg v5 v6 v8 b off ni c7 rb tb t gb g ab agb at2 ag cb cgb ct cg S w hB hbl hat hni hc h1 h2 h3 h4 hlt hltb (.inl k29)
 by_cases k30:op=30
 ·exact l6followers_e op fa fb fc fd at_ nm ln pr rs rg v5 v6 v8 b off ni c7 rb tb t gb g ab agb at2 ag cb cgb ct cg S w hB hbl hat hni hc h1 h2 h3 h4 hlt hltb (.inr k30)
 by_cases k19:op=19
 ·subst k19;exact l6followers_19 fa fb fc fd at_ nm ln pr rs rg v5 v6 v8 b off ni c7 rb tb t gb g ab agb at2 ag cb cgb ct cg S w hB hbl hat hni hc h1 h2 h3 h4 hlt hltb (e1 (by simp))
 by_cases k20:op=20
 ·exact l6followers_j op fa fb fc fd at_ nm ln pr rs rg v5 v6 v8 b off ni c7 rb tb t gb g ab agb at2 ag cb cgb ct cg S w hB hbl hat hni hc h1 h2 h3 h4 hlt hltb (e2 (by simp[k20])) (by simp[k20])
 by_cases k21:op=21
 ·exact l6followers_j op fa fb fc fd at_ nm ln pr rs rg v5 v6 v8 b off ni c7 rb tb t gb g ab agb at2 ag cb cgb ct cg S w hB hbl hat hni hc h1 h2 h3 h4 hlt hltb (e2 (by simp[k21])) (by simp[k21])
 by_cases k38:op=38
 ·exact l6followers_j op fa fb fc fd at_ nm ln pr rs rg v5 v6 v8 b off ni c7 rb tb t gb g ab agb at2 ag cb cgb ct cg S w hB hbl hat hni hc h1 h2 h3 h4 hlt hltb (e2 (by simp[k38])) (by simp[k38])
 by_cases k39:op=39
 ·exact l6followers_j op fa fb fc fd at_ nm ln pr rs rg v5 v6 v8 b off ni c7 rb tb t gb g ab agb at2 ag cb cgb ct cg S w hB hbl hat hni hc h1 h2 h3 h4 hlt hltb (e2 (by simp[k39])) (by simp[k39])
 by_cases k41:op=41
 ·subst k41;exact l6followers_41 fa fb fc fd at_ nm ln pr rs rg v5 v6 v8 b off ni c7 rb tb t gb g ab agb at2 ag cb cgb ct cg S w hB hbl hat hni hc h1 h2 h3 h4 hlt hltb (e2 (by simp)) (e3 rfl).1 (e3 rfl).2 htt
 by_cases k31:op=31
 ·subst k31;exact l6followers_31 fa fb fc fd at_ nm ln pr rs rg v5 v6 v8 b off ni c7 rb tb t gb g ab agb at2 ag cb cgb ct cg S w hB hbl hat hni hc h1 h2 h3 h4 hlt hltb (e2 (by simp)) (e1 (by simp)) (by have:=e4 rfl;omega)
 exact l6followers_none op fa fb fc fd at_ nm ln pr rs rg v5 v6 v8 b off ni c7 rb tb t gb g ab agb at2 ag cb cgb ct cg S w hB hbl hat hni hc h1 h2 h3 h4 hlt hltb k19 k29 k30 k20 k21 k38 k39 k41 k31
end Go.Proofs.YtmjcpapdncfkpaaGreatDoor

import Derived.Test.YthmjjhfjkgaocaaGreatDoorPart23
set_option linter.unusedSimpArgs false
set_option linter.unusedVariables false
set_option maxHeartbeats 4000000
set_option maxRecDepth 100000
namespace Go.Proofs.YthmjjhfjkgaocaaGreatDoor
open Go.RowKit
theorem l6wants_any (r:Nat)(hr:r≤21)(w:World):Calls Tryz.prog 65 #[.int .i64 r] w fun e w'=>e=.returned (.tuple #[.int .i64 (wantsC r).1,.bool (wantsC r).2])∧w'=w:=by
 have hc:r=0∨r=1∨r=2∨r=3∨r=4∨r=5∨r=6∨r=7∨r=8∨r=9∨r=10∨r=11∨r=12∨r=13∨r=14∨r=15∨r=16∨r=17∨r=18∨r=19∨r=20∨r=21:=by omega
 rcases hc with rfl | rfl | rfl | rfl | rfl | rfl | rfl | rfl | rfl | rfl | rfl | rfl | rfl | rfl | rfl | rfl | rfl | rfl | rfl | rfl | rfl | rfl
 all_goals
  go_enter Tryz.func65,Tryz.ntmps65
  go_wp2_with fail
  go_ret2
  exact⟨rfl,rfl⟩
theorem aboveC_true {g:List GuD}{keep:Int}(h:∀ j,j<g.length→¬((g[j]?.getD GuD.z).tr=true∧keep<(g[j]?.getD GuD.z).keep)):aboveC g keep=true:=by
 unfold aboveC
 rw[Bool.not_eq_true',Bool.eq_false_iff]
 intro hc
 rw[List.any_eq_true]at hc
 obtain⟨x,hx,hp⟩:=hc
 obtain⟨j,hj,e⟩:=List.getElem_of_mem hx
 have h1:=h j hj
 rw[List.getElem?_eq_getElem hj,e]at h1
 simp only[Bool.and_eq_true,decide_eq_true_eq]at hp
 exact h1 hp
theorem aboveC_false {g:List GuD}{keep:Int}{j:Nat}(hj:j<g.length)(h1:(g[j]?.getD GuD.z).tr=true)(h2:keep<(g[j]?.getD GuD.z).keep):aboveC g keep=false:=by
 unfold aboveC
 rw[Bool.not_eq_false',List.any_eq_true]
 refine⟨g[j],List.getElem_mem hj,?_⟩
 rw[List.getElem?_eq_getElem hj]at h1 h2
 have h1:g[j].tr=true:=h1
 have h2:keep<g[j].keep:=h2
 simp[h1,h2]
theorem l6above_any (a:Option Addr)(l:List GuD)(c:Nat)(keep:Int)(S:Nat→Prop)(w:World)(hs:GusAt w S a l)(hB:∀ b,S b→b<w.heap.size) :
  Calls Tryz.prog 66 #[.slice a l.length c,.int .i64 keep] w fun e w'=>e=.returned (.bool (aboveC l keep))∧Below w.heap.size w w':=by
 have hn:=hs.1
 have RT:Hid ((∀ j,j<l.length→¬((l[j]?.getD GuD.z).tr=true∧keep<(l[j]?.getD GuD.z).keep))→aboveC l keep=true):=fun h=>aboveC_true h
 have RF:Hid (∀ j,j<l.length→(l[j]?.getD GuD.z).tr=true→keep<(l[j]?.getD GuD.z).keep→aboveC l keep=false):=fun j h0 h1 h2=>aboveC_false h0 h1 h2
 generalize aboveC l keep=res at *
 go_enter Tryz.func66,Tryz.ntmps66
 go_wp2_with fail
 go_loopg [9] l.length (fun g i wr=>∃(k:Nat),k+g=l.length∧i=.int .i64 k∧Below w.heap.size w wr∧Hid (∀ j,j<k→¬((l[j]?.getD GuD.z).tr=true∧keep<(l[j]?.getD GuD.z).keep)))
 case atStart=>exact⟨0,by omega,rfl,Below.refl _ _,fun j h=>absurd h (Nat.not_lt_zero _)⟩
 case round=>
  obtain⟨k,hk,rfl,hb,hall⟩:=hrel
  by_cases hlt:k<l.length
  ·obtain⟨b,off,rfl,hbS,hcc⟩:=(hs.keep hb hB).2 (by omega)
   have hc:=hcc k hlt
   have NX:Hid (¬((l[k]?.getD GuD.z).tr=true∧keep<(l[k]?.getD GuD.z).keep)→∀ j,j<k+1→¬((l[j]?.getD GuD.z).tr=true∧keep<(l[j]?.getD GuD.z).keep)):=fun h j hj=>by
    by_cases e:j=k
    ·subst e;exact h
    ·exact hall.out j (by omega)
   have FF:=hide (unhide RF k hlt)
   clear hcc hall
   generalize l[k]?.getD GuD.z=x at *
   have d0:=hc.tr;have d1:=hc.keep;have d2:=hc.hand
   obtain⟨xt,xk,xh⟩:=x
   simp only at *
   have HB:Hid (∀ o,Below w.heap.size w (wr.alloc o)):=fun o=>hb.alloc hb.size o
   have hbl:b<wr.heap.size:=Nat.lt_of_lt_of_le (hB b hbS) hb.size
   clear hc hb
   cases xt
   ·have RR:=hide (unhide NX (by simp))
    clear NX FF
    go_wp2_with fail
    go_roundg (l.length-(k+1))
    case measure=>omega
    case rel=>exact⟨k+1,by omega,by go_num,unhide HB _,RR⟩
   ·by_cases hlk:keep<xk
    ·have RR:Hid (res=false):=unhide FF rfl hlk
     have hd:decide (keep<xk)=true:=decide_eq_true hlk
     clear NX FF
     go_wp2_with fail
     go_ret
     exact⟨ret_bool RR.out.symm,unhide HB _⟩
    ·have RR:=hide (unhide NX (fun h=>hlk h.2))
     have hd:decide (keep<xk)=false:=decide_eq_false hlk
     clear NX FF
     go_wp2_with fail
     go_roundg (l.length-(k+1))
     case measure=>omega
     case rel=>exact⟨k+1,by omega,by go_num,unhide HB _,RR⟩
  ·have RR:Hid (res=true):=unhide RT (fun j hj=>hall.out j (by omega))
   go_wp2_with fail
   go_ret
   exact⟨ret_bool RR.out.symm,hb⟩
def silentI (n:InsD)(a:Nat):List Int:=
 if n.op=1∨n.op=3∨n.op=28∨n.op=29∨n.op=30 then[]
 else if n.op=18∧n.fb=12 then[]
 else if n.op=19 then[n.fa]
 else if n.op=41 then[n.fb]
 else if n.op=20∨n.op=21∨n.op=38∨n.op=39 then[n.fb,(a:Int)+1]
 else if n.op=31 then[n.fa,(a:Int)+1]
 else[(a:Int)+1]
theorem l6silent_a (op:Int)(hop:op=1∨op=3∨op=28∨op=29∨op=30)(fa fb fc fd:Int)(at_:Nat)(nm:ByteArray)(ln pr:Int)(rs:Bool)(rg:Int)(us:List (Bool×Int))(cs:List ValD)(is:List InsD)(ns:List NamD)(a5 a6 a8:Option Addr)(c5 c6 c7 c8:Nat)(S:Nat→Prop)(w:World)(b off:Nat)(hbl:b<w.heap.size)(hat:at_<is.length)(hil:is.length≤1048576)(hc:InsCells w b (off+at_ * 5) ⟨op,fa,fb,fc,fd⟩) :
  Calls Tryz.prog 62 #[.agg #[.string nm,.int .i64 ln,.int .i64 pr,.bool rs,.int .i64 rg,.slice a5 us.length c5,.slice a6 cs.length c6,.slice (some ⟨b,off,none⟩) is.length c7,.slice a8 ns.length c8],.int .i64 at_] w fun e w'=>∃ v,e=.returned v∧OwnI w' w.heap.size v []∧Below w.heap.size w w':=by
 rcases hop with rfl | rfl | rfl | rfl | rfl
 all_goals
  obtain⟨i0,hi,hz0,hz1,hz2⟩:=info_of info_i
  have d0:=hc.op;have d1:=hc.fa;have d2:=hc.fb;have d3:=hc.fc;have d4:=hc.fd
  clear hc
  simp only at d0 d1 d2 d3 d4
  have hA:∀ o1 o2,Below w.heap.size w ((w.alloc o1).alloc o2):=fun o1 o2=>((Below.refl _ _).alloc (Nat.le_refl _) o1).alloc (by simp) o2
  go_enter Tryz.func62,Tryz.ntmps62
  go_wp2_with fail
  go_ret
  exact⟨_,rfl,World.ownsRow_nil _ _ _ _,hA _ _⟩
theorem l6silent_18j (fa fb fc fd:Int)(at_:Nat)(nm:ByteArray)(ln pr:Int)(rs:Bool)(rg:Int)(us:List (Bool×Int))(cs:List ValD)(is:List InsD)(ns:List NamD)(a5 a6 a8:Option Addr)(c5 c6 c7 c8:Nat)(S:Nat→Prop)(w:World)(b off:Nat)(hbl:b<w.heap.size)(hat:at_<is.length)(hil:is.length≤1048576)(hc:InsCells w b (off+at_ * 5) ⟨18,fa,fb,fc,fd⟩)(h12:fb=12) :
  Calls Tryz.prog 62 #[.agg #[.string nm,.int .i64 ln,.int .i64 pr,.bool rs,.int .i64 rg,.slice a5 us.length c5,.slice a6 cs.length c6,.slice (some ⟨b,off,none⟩) is.length c7,.slice a8 ns.length c8],.int .i64 at_] w fun e w'=>∃ v,e=.returned v∧OwnI w' w.heap.size v []∧Below w.heap.size w w':=by
 obtain⟨i0,hi,hz0,hz1,hz2⟩:=info_of info_i
 have d0:=hc.op;have d1:=hc.fa;have d2:=hc.fb;have d3:=hc.fc;have d4:=hc.fd
 clear hc
 subst h12
 simp only at d0 d1 d2 d3 d4
 have hA:∀ o1 o2,Below w.heap.size w ((w.alloc o1).alloc o2):=fun o1 o2=>((Below.refl _ _).alloc (Nat.le_refl _) o1).alloc (by simp) o2
 go_enter Tryz.func62,Tryz.ntmps62
 go_wp2_with fail
 go_ret
 exact⟨_,rfl,World.ownsRow_nil _ _ _ _,hA _ _⟩
theorem l6silent_18 (fa fb fc fd:Int)(at_:Nat)(nm:ByteArray)(ln pr:Int)(rs:Bool)(rg:Int)(us:List (Bool×Int))(cs:List ValD)(is:List InsD)(ns:List NamD)(a5 a6 a8:Option Addr)(c5 c6 c7 c8:Nat)(S:Nat→Prop)(w:World)(b off:Nat)(hbl:b<w.heap.size)(hat:at_<is.length)(hil:is.length≤1048576)(hc:InsCells w b (off+at_ * 5) ⟨18,fa,fb,fc,fd⟩)(h12:(fb==12)=false) :
  Calls Tryz.prog 62 #[.agg #[.string nm,.int .i64 ln,.int .i64 pr,.bool rs,.int .i64 rg,.slice a5 us.length c5,.slice a6 cs.length c6,.slice (some ⟨b,off,none⟩) is.length c7,.slice a8 ns.length c8],.int .i64 at_] w fun e w'=>∃ v,e=.returned v∧OwnI w' w.heap.size v [((at_:Int)+1)]∧Below w.heap.size w w':=by
 obtain⟨i0,hi,hz0,hz1,hz2⟩:=info_of info_i
 have d0:=hc.op;have d1:=hc.fa;have d2:=hc.fb;have d3:=hc.fc;have d4:=hc.fd
 clear hc
 simp only at d0 d1 d2 d3 d4
 have hA:∀ o1 o2,Below w.heap.size w ((w.alloc o1).alloc o2):=fun o1 o2=>((Below.refl _ _).alloc (Nat.le_refl _) o1).alloc (by simp) o2
 go_enter Tryz.func62,Tryz.ntmps62
 go_wp2_with (first
  | (at_builtin;refine wpList_append_own _ rfl _ _ 54 rfl w.heap.size 3 i0 (.int .i64 0) 1 8 Tryz.underlying54 hi hz0 hz1 hz2 rfl (by decide) _ _ _ rfl (World.ownsRow_nil _ _ _ _) ⟨w.heap.size+1+1,0,none⟩ 1 1 [.int .i64 ((at_:Int)+1)] rfl rfl ?c1 ?c2 ?c3 ?c4 ?c5 ?_)
  | go_in)
 case c1=>intro j u hj;rcases j with _ | _<;>simp at hj<;>subst hj<;>simp[Addr.add,go_sem]
 case c2=>intro u hu;simp at hu;subst hu;rfl
 case c3=>unfold maxLen;simp
 case c4=>simp
 case c5=>simp;omega
 intro v1 w1 hown1 hgrow1 _
 have O1:Hid (OwnI w1 w.heap.size v1 [((at_:Int)+1)]):=OwnI.push (t:=[]) hown1
 have B1:Hid (Below w.heap.size w w1):=((hA _ _).alloc (by simp;omega) _).grown hgrow1 (by simp;omega) (fun j hj=>by cases hj)
 clear hown1 hgrow1
 go_wp2_with fail
 go_ret
 exact⟨_,rfl,unhide O1,unhide B1⟩
theorem l6silent_19 (fa fb fc fd:Int)(at_:Nat)(nm:ByteArray)(ln pr:Int)(rs:Bool)(rg:Int)(us:List (Bool×Int))(cs:List ValD)(is:List InsD)(ns:List NamD)(a5 a6 a8:Option Addr)(c5 c6 c7 c8:Nat)(S:Nat→Prop)(w:World)(b off:Nat)(hbl:b<w.heap.size)(hat:at_<is.length)(hil:is.length≤1048576)(hc:InsCells w b (off+at_ * 5) ⟨19,fa,fb,fc,fd⟩) :
  Calls Tryz.prog 62 #[.agg #[.string nm,.int .i64 ln,.int .i64 pr,.bool rs,.int .i64 rg,.slice a5 us.length c5,.slice a6 cs.length c6,.slice (some ⟨b,off,none⟩) is.length c7,.slice a8 ns.length c8],.int .i64 at_] w fun e w'=>∃ v,e=.returned v∧OwnI w' w.heap.size v [fa]∧Below w.heap.size w w':=by
 obtain⟨i0,hi,hz0,hz1,hz2⟩:=info_of info_i
 have d0:=hc.op;have d1:=hc.fa;have d2:=hc.fb;have d3:=hc.fc;have d4:=hc.fd
 clear hc
 simp only at d0 d1 d2 d3 d4
 have hA:∀ o1 o2,Below w.heap.size w ((w.alloc o1).alloc o2):=fun o1 o2=>((Below.refl _ _).alloc (Nat.le_refl _) o1).alloc (by simp) o2
 go_enter Tryz.func62,Tryz.ntmps62
 go_wp2_with (first
  | (at_builtin;refine wpList_append_own _ rfl _ _ 54 rfl w.heap.size 3 i0 (.int .i64 0) 1 8 Tryz.underlying54 hi hz0 hz1 hz2 rfl (by decide) _ _ _ rfl (World.ownsRow_nil _ _ _ _) ⟨w.heap.size+1+1,0,none⟩ 1 1 [.int .i64 fa] rfl rfl ?c1 ?c2 ?c3 ?c4 ?c5 ?_)
  | go_in)
 case c1=>intro j u hj;rcases j with _ | _<;>simp at hj<;>subst hj<;>simp[Addr.add,go_sem]
 case c2=>intro u hu;simp at hu;subst hu;rfl
 case c3=>unfold maxLen;simp
 case c4=>simp
 case c5=>simp;omega
 intro v1 w1 hown1 hgrow1 _
 have O1:Hid (OwnI w1 w.heap.size v1 [fa]):=OwnI.push (t:=[]) hown1
 have B1:Hid (Below w.heap.size w w1):=((hA _ _).alloc (by simp;omega) _).grown hgrow1 (by simp;omega) (fun j hj=>by cases hj)
 clear hown1 hgrow1
 go_wp2_with fail
 go_ret
 exact⟨_,rfl,unhide O1,unhide B1⟩
theorem l6silent_41 (fa fb fc fd:Int)(at_:Nat)(nm:ByteArray)(ln pr:Int)(rs:Bool)(rg:Int)(us:List (Bool×Int))(cs:List ValD)(is:List InsD)(ns:List NamD)(a5 a6 a8:Option Addr)(c5 c6 c7 c8:Nat)(S:Nat→Prop)(w:World)(b off:Nat)(hbl:b<w.heap.size)(hat:at_<is.length)(hil:is.length≤1048576)(hc:InsCells w b (off+at_ * 5) ⟨41,fa,fb,fc,fd⟩) :
  Calls Tryz.prog 62 #[.agg #[.string nm,.int .i64 ln,.int .i64 pr,.bool rs,.int .i64 rg,.slice a5 us.length c5,.slice a6 cs.length c6,.slice (some ⟨b,off,none⟩) is.length c7,.slice a8 ns.length c8],.int .i64 at_] w fun e w'=>∃ v,e=.returned v∧OwnI w' w.heap.size v [fb]∧Below w.heap.size w w':=by
 obtain⟨i0,hi,hz0,hz1,hz2⟩:=info_of info_i
 have d0:=hc.op;have d1:=hc.fa;have d2:=hc.fb;have d3:=hc.fc;have d4:=hc.fd
 clear hc
 simp only at d0 d1 d2 d3 d4
 have hA:∀ o1 o2,Below w.heap.size w ((w.alloc o1).alloc o2):=fun o1 o2=>((Below.refl _ _).alloc (Nat.le_refl _) o1).alloc (by simp) o2
 go_enter Tryz.func62,Tryz.ntmps62
 go_wp2_with (first
  | (at_builtin;refine wpList_append_own _ rfl _ _ 54 rfl w.heap.size 3 i0 (.int .i64 0) 1 8 Tryz.underlying54 hi hz0 hz1 hz2 rfl (by decide) _ _ _ rfl (World.ownsRow_nil _ _ _ _) ⟨w.heap.size+1+1,0,none⟩ 1 1 [.int .i64 fb] rfl rfl ?c1 ?c2 ?c3 ?c4 ?c5 ?_)
  | go_in)
 case c1=>intro j u hj;rcases j with _ | _<;>simp at hj<;>subst hj<;>simp[Addr.add,go_sem]
 case c2=>intro u hu;simp at hu;subst hu;rfl
 case c3=>unfold maxLen;simp
 case c4=>simp
 case c5=>simp;omega
 intro v1 w1 hown1 hgrow1 _
 have O1:Hid (OwnI w1 w.heap.size v1 [fb]):=OwnI.push (t:=[]) hown1
 have B1:Hid (Below w.heap.size w w1):=((hA _ _).alloc (by simp;omega) _).grown hgrow1 (by simp;omega) (fun j hj=>by cases hj)
 clear hown1 hgrow1
 go_wp2_with fail
 go_ret
 exact⟨_,rfl,unhide O1,unhide B1⟩
theorem l6silent_b (op:Int)(hop:op=20∨op=21∨op=38∨op=39)(fa fb fc fd:Int)(at_:Nat)(nm:ByteArray)(ln pr:Int)(rs:Bool)(rg:Int)(us:List (Bool×Int))(cs:List ValD)(is:List InsD)(ns:List NamD)(a5 a6 a8:Option Addr)(c5 c6 c7 c8:Nat)(S:Nat→Prop)(w:World)(b off:Nat)(hbl:b<w.heap.size)(hat:at_<is.length)(hil:is.length≤1048576)(hc:InsCells w b (off+at_ * 5) ⟨op,fa,fb,fc,fd⟩) :
  Calls Tryz.prog 62 #[.agg #[.string nm,.int .i64 ln,.int .i64 pr,.bool rs,.int .i64 rg,.slice a5 us.length c5,.slice a6 cs.length c6,.slice (some ⟨b,off,none⟩) is.length c7,.slice a8 ns.length c8],.int .i64 at_] w fun e w'=>∃ v,e=.returned v∧OwnI w' w.heap.size v [fb,((at_:Int)+1)]∧Below w.heap.size w w':=by
 rcases hop with rfl | rfl | rfl | rfl
 all_goals
  obtain⟨i0,hi,hz0,hz1,hz2⟩:=info_of info_i
  have d0:=hc.op;have d1:=hc.fa;have d2:=hc.fb;have d3:=hc.fc;have d4:=hc.fd
  clear hc
  simp only at d0 d1 d2 d3 d4
  have hA:∀ o1 o2,Below w.heap.size w ((w.alloc o1).alloc o2):=fun o1 o2=>((Below.refl _ _).alloc (Nat.le_refl _) o1).alloc (by simp) o2
  go_enter Tryz.func62,Tryz.ntmps62
  go_wp2_with (first
   | (at_builtin;refine wpList_append_own _ rfl _ _ 54 rfl w.heap.size 3 i0 (.int .i64 0) 1 8 Tryz.underlying54 hi hz0 hz1 hz2 rfl (by decide) _ _ _ rfl (World.ownsRow_nil _ _ _ _) ⟨w.heap.size+1+1,0,none⟩ 1 1 [.int .i64 fb] rfl rfl ?c1 ?c2 ?c3 ?c4 ?c5 ?_)
   | go_in)
  case c1=>intro j u hj;rcases j with _ | _<;>simp at hj<;>subst hj<;>simp[Addr.add,go_sem]
  case c2=>intro u hu;simp at hu;subst hu;rfl
  case c3=>unfold maxLen;simp
  case c4=>simp
  case c5=>simp;omega
  intro v1 w1 hown1 hgrow1 _
  have O1:Hid (OwnI w1 w.heap.size v1 [fb]):=OwnI.push (t:=[]) hown1
  have B1:Hid (Below w.heap.size w w1):=((hA _ _).alloc (by simp;omega) _).grown hgrow1 (by simp;omega) (fun j hj=>by cases hj)
  clear hown1 hgrow1
  have hs1:=(unhide B1).size
  go_wp2_with (first
   | (at_builtin;refine wpList_append_own _ rfl _ _ 54 rfl w.heap.size 3 i0 (.int .i64 0) 1 8 Tryz.underlying54 hi hz0 hz1 hz2 rfl (by decide) _ _ _ rfl ((unhide O1).alloc _) ⟨w1.heap.size,0,none⟩ 1 1 [.int .i64 ((at_:Int)+1)] rfl rfl ?c1 ?c2 ?c3 ?c4 ?c5 ?_)
   | go_in)
  case c1=>intro j u hj;rcases j with _ | _<;>simp at hj<;>subst hj<;>simp[Addr.add,go_sem]
  case c2=>intro u hu;simp at hu;subst hu;rfl
  case c3=>unfold maxLen;simp
  case c4=>simp
  case c5=>simp;omega
  intro v2 w2 hown2 hgrow2 _
  have O2:Hid (OwnI w2 w.heap.size v2 [fb,((at_:Int)+1)]):=OwnI.push (t:=[fb]) hown2
  have B2:Hid (Below w.heap.size w w2):=((unhide B1).alloc hs1 _).grown hgrow2 (by simp;omega) (fun j hj=>((unhide O1).lt j hj).1)
  clear hown2 hgrow2
  go_wp2_with fail
  go_ret
  exact⟨_,rfl,unhide O2,unhide B2⟩
theorem l6silent_31 (fa fb fc fd:Int)(at_:Nat)(nm:ByteArray)(ln pr:Int)(rs:Bool)(rg:Int)(us:List (Bool×Int))(cs:List ValD)(is:List InsD)(ns:List NamD)(a5 a6 a8:Option Addr)(c5 c6 c7 c8:Nat)(S:Nat→Prop)(w:World)(b off:Nat)(hbl:b<w.heap.size)(hat:at_<is.length)(hil:is.length≤1048576)(hc:InsCells w b (off+at_ * 5) ⟨31,fa,fb,fc,fd⟩) :
  Calls Tryz.prog 62 #[.agg #[.string nm,.int .i64 ln,.int .i64 pr,.bool rs,.int .i64 rg,.slice a5 us.length c5,.slice a6 cs.length c6,.slice (some ⟨b,off,none⟩) is.length c7,.slice a8 ns.length c8],.int .i64 at_] w fun e w'=>∃ v,e=.returned v∧OwnI w' w.heap.size v [fa,((at_:Int)+1)]∧Below w.heap.size w w':=by
 obtain⟨i0,hi,hz0,hz1,hz2⟩:=info_of info_i
 have d0:=hc.op;have d1:=hc.fa;have d2:=hc.fb;have d3:=hc.fc;have d4:=hc.fd
 clear hc
 simp only at d0 d1 d2 d3 d4
 have hA:∀ o1 o2,Below w.heap.size w ((w.alloc o1).alloc o2):=fun o1 o2=>((Below.refl _ _).alloc (Nat.le_refl _) o1).alloc (by simp) o2
 go_enter Tryz.func62,Tryz.ntmps62
 go_wp2_with (first
  | (at_builtin;refine wpList_append_own _ rfl _ _ 54 rfl w.heap.size 3 i0 (.int .i64 0) 1 8 Tryz.underlying54 hi hz0 hz1 hz2 rfl (by decide) _ _ _ rfl (World.ownsRow_nil _ _ _ _) ⟨w.heap.size+1+1,0,none⟩ 1 1 [.int .i64 fa] rfl rfl ?c1 ?c2 ?c3 ?c4 ?c5 ?_)
  | go_in)
 case c1=>intro j u hj;rcases j with _ | _<;>simp at hj<;>subst hj<;>simp[Addr.add,go_sem]
 case c2=>intro u hu;simp at hu;subst hu;rfl
 case c3=>unfold maxLen;simp
 case c4=>simp
 case c5=>simp;omega
 intro v1 w1 hown1 hgrow1 _
 have O1:Hid (OwnI w1 w.heap.size v1 [fa]):=OwnI.push (t:=[]) hown1
 have B1:Hid (Below w.heap.size w w1):=((hA _ _).alloc (by simp;omega) _).grown hgrow1 (by simp;omega) (fun j hj=>by cases hj)
 clear hown1 hgrow1
 have hs1:=(unhide B1).size
 go_wp2_with (first
  | (at_builtin;refine wpList_append_own _ rfl _ _ 54 rfl w.heap.size 3 i0 (.int .i64 0) 1 8 Tryz.underlying54 hi hz0 hz1 hz2 rfl (by decide) _ _ _ rfl ((unhide O1).alloc _) ⟨w1.heap.size,0,none⟩ 1 1 [.int .i64 ((at_:Int)+1)] rfl rfl ?c1 ?c2 ?c3 ?c4 ?c5 ?_)
  | go_in)
 case c1=>intro j u hj;rcases j with _ | _<;>simp at hj<;>subst hj<;>simp[Addr.add,go_sem]
 case c2=>intro u hu;simp at hu;subst hu;rfl
 case c3=>unfold maxLen;simp
 case c4=>simp
 case c5=>simp;omega
 intro v2 w2 hown2 hgrow2 _
 have O2:Hid (OwnI w2 w.heap.size v2 [fa,((at_:Int)+1)]):=OwnI.push (t:=[fa]) hown2
 have B2:Hid (Below w.heap.size w w2):=((unhide B1).alloc hs1 _).grown hgrow2 (by simp;omega) (fun j hj=>((unhide O1).lt j hj).1)
 clear hown2 hgrow2
 go_wp2_with fail
 go_ret
 exact⟨_,rfl,unhide O2,unhide B2⟩
theorem l6silent_none (op:Int)(fa fb fc fd:Int)(at_:Nat)(nm:ByteArray)(ln pr:Int)(rs:Bool)(rg:Int)(us:List (Bool×Int))(cs:List ValD)(is:List InsD)(ns:List NamD)(a5 a6 a8:Option Addr)(c5 c6 c7 c8:Nat)(S:Nat→Prop)(w:World)(b off:Nat)(hbl:b<w.heap.size)(hat:at_<is.length)(hil:is.length≤1048576)(hc:InsCells w b (off+at_ * 5) ⟨op,fa,fb,fc,fd⟩)(k1:(op==1)=false)(k3:(op==3)=false)(k28:(op==28)=false)(k29:(op==29)=false)(k30:(op==30)=false)(k18:(op==18)=false)(k19:(op==19)=false)(k41:(op==41)=false)(k20:(op==20)=false)(k21:(op==21)=false)(k38:(op==38)=false)(k39:(op==39)=false)(k31:(op==31)=false) :
  Calls Tryz.prog 62 #[.agg #[.string nm,.int .i64 ln,.int .i64 pr,.bool rs,.int .i64 rg,.slice a5 us.length c5,.slice a6 cs.length c6,.slice (some ⟨b,off,none⟩) is.length c7,.slice a8 ns.length c8],.int .i64 at_] w fun e w'=>∃ v,e=.returned v∧OwnI w' w.heap.size v [((at_:Int)+1)]∧Below w.heap.size w w':=by
 obtain⟨i0,hi,hz0,hz1,hz2⟩:=info_of info_i
 have d0:=hc.op;have d1:=hc.fa;have d2:=hc.fb;have d3:=hc.fc;have d4:=hc.fd
 clear hc
 simp only at d0 d1 d2 d3 d4
 have hA:∀ o1 o2,Below w.heap.size w ((w.alloc o1).alloc o2):=fun o1 o2=>((Below.refl _ _).alloc (Nat.le_refl _) o1).alloc (by simp) o2
 go_enter Tryz.func62,Tryz.ntmps62
 go_wp2_with (first
  | (at_builtin;refine wpList_append_own _ rfl _ _ 54 rfl w.heap.size 3 i0 (.int .i64 0) 1 8 Tryz.underlying54 hi hz0 hz1 hz2 rfl (by decide) _ _ _ rfl (World.ownsRow_nil _ _ _ _) ⟨w.heap.size+1+1,0,none⟩ 1 1 [.int .i64 ((at_:Int)+1)] rfl rfl ?c1 ?c2 ?c3 ?c4 ?c5 ?_)
  | go_in)
 case c1=>intro j u hj;rcases j with _ | _<;>simp at hj<;>subst hj<;>simp[Addr.add,go_sem]
 case c2=>intro u hu;simp at hu;subst hu;rfl
 case c3=>unfold maxLen;simp
 case c4=>simp
 case c5=>simp;omega
 intro v1 w1 hown1 hgrow1 _
 have O1:Hid (OwnI w1 w.heap.size v1 [((at_:Int)+1)]):=OwnI.push (t:=[]) hown1
 have B1:Hid (Below w.heap.size w w1):=((hA _ _).alloc (by simp;omega) _).grown hgrow1 (by simp;omega) (fun j hj=>by cases hj)
 clear hown1 hgrow1
 go_wp2_with fail
 go_ret
 exact⟨_,rfl,unhide O1,unhide B1⟩
theorem l6silent_any (at_:Nat)(nm:ByteArray)(ln pr:Int)(rs:Bool)(rg:Int)(us:List (Bool×Int))(cs:List ValD)(is:List InsD)(ns:List NamD)(a5 a6 a7 a8:Option Addr)(c5 c6 c7 c8:Nat)(S:Nat→Prop)(w:World)(hs:InssAt w S a7 is)(hB:∀ b,S b→b<w.heap.size)(hat:at_<is.length)(hil:is.length≤1048576) :
  Calls Tryz.prog 62 #[.agg #[.string nm,.int .i64 ln,.int .i64 pr,.bool rs,.int .i64 rg,.slice a5 us.length c5,.slice a6 cs.length c6,.slice a7 is.length c7,.slice a8 ns.length c8],.int .i64 at_] w fun e w'=>∃ v,e=.returned v∧OwnI w' w.heap.size v (silentI (is[at_]?.getD InsD.z) at_)∧Below w.heap.size w w':=by
 obtain⟨b,off,rfl,hb,hcc⟩:=hs.2 (by omega)
 have hc:=hcc at_ hat
 have hbl:=hB b hb
 generalize is[at_]?.getD InsD.z=n at *
 obtain⟨op,fa,fb,fc,fd⟩:=n
 by_cases k1:op=1
 ·subst k1;exact l6silent_a 1 (by omega) fa fb fc fd at_ nm ln pr rs rg us cs is ns a5 a6 a8 c5 c6 c7 c8 S w b off hbl hat hil hc
 by_cases k3:op=3
 ·subst k3;exact l6silent_a 3 (by omega) fa fb fc fd at_ nm ln pr rs rg us cs is ns a5 a6 a8 c5 c6 c7 c8 S w b off hbl hat hil hc
 by_cases k28:op=28
 ·subst k28;exact l6silent_a 28 (by omega) fa fb fc fd at_ nm ln pr rs rg us cs is ns a5 a6 a8 c5 c6 c7 c8 S w b off hbl hat hil hc
 by_cases k29:op=29
 ·subst k29;exact l6silent_a 29 (by omega) fa fb fc fd at_ nm ln pr rs rg us cs is ns a5 a6 a8 c5 c6 c7 c8 S w b off hbl hat hil hc
 by_cases k30:op=30
 ·subst k30;exact l6silent_a 30 (by omega) fa fb fc fd at_ nm ln pr rs rg us cs is ns a5 a6 a8 c5 c6 c7 c8 S w b off hbl hat hil hc
 by_cases k18:op=18
 ·subst k18
  by_cases h12:fb=12
  ·have e:silentI ⟨18,fa,fb,fc,fd⟩ at_=[]:=by simp[silentI,h12]
   rw[e];exact l6silent_18j fa fb fc fd at_ nm ln pr rs rg us cs is ns a5 a6 a8 c5 c6 c7 c8 S w b off hbl hat hil hc h12
  ·have e:silentI ⟨18,fa,fb,fc,fd⟩ at_=[((at_:Int)+1)]:=by simp[silentI,h12]
   rw[e];exact l6silent_18 fa fb fc fd at_ nm ln pr rs rg us cs is ns a5 a6 a8 c5 c6 c7 c8 S w b off hbl hat hil hc (beq_eq_false_iff_ne.2 h12)
 by_cases k19:op=19
 ·subst k19;exact l6silent_19 fa fb fc fd at_ nm ln pr rs rg us cs is ns a5 a6 a8 c5 c6 c7 c8 S w b off hbl hat hil hc
 by_cases k41:op=41
 ·subst k41;exact l6silent_41 fa fb fc fd at_ nm ln pr rs rg us cs is ns a5 a6 a8 c5 c6 c7 c8 S w b off hbl hat hil hc
 by_cases k20:op=20
 ·subst k20;exact l6silent_b 20 (by omega) fa fb fc fd at_ nm ln pr rs rg us cs is ns a5 a6 a8 c5 c6 c7 c8 S w b off hbl hat hil hc
 by_cases k21:op=21
 ·subst k21;exact l6silent_b 21 (by omega) fa fb fc fd at_ nm ln pr rs rg us cs is ns a5 a6 a8 c5 c6 c7 c8 S w b off hbl hat hil hc
 by_cases k38:op=38
 ·subst k38;exact l6silent_b 38 (by omega) fa fb fc fd at_ nm ln pr rs rg us cs is ns a5 a6 a8 c5 c6 c7 c8 S w b off hbl hat hil hc
 by_cases k39:op=39
 ·subst k39;exact l6silent_b 39 (by omega) fa fb fc fd at_ nm ln pr rs rg us cs is ns a5 a6 a8 c5 c6 c7 c8 S w b off hbl hat hil hc
 by_cases k31:op=31
 ·subst k31;exact l6silent_31 fa fb fc fd at_ nm ln pr rs rg us cs is ns a5 a6 a8 c5 c6 c7 c8 S w b off hbl hat hil hc
 have e:silentI ⟨op,fa,fb,fc,fd⟩ at_=[((at_:Int)+1)]:=by simp[silentI,k1,k3,k28,k29,k30,k18,k19,k41,k20,k21,k38,k39,k31]
 rw[e]
 exact l6silent_none op fa fb fc fd at_ nm ln pr rs rg us cs is ns a5 a6 a8 c5 c6 c7 c8 S w b off hbl hat hil hc (beq_eq_false_iff_ne.2 k1) (beq_eq_false_iff_ne.2 k3) (beq_eq_false_iff_ne.2 k28) (beq_eq_false_iff_ne.2 k29) (beq_eq_false_iff_ne.2 k30) (beq_eq_false_iff_ne.2 k18) (beq_eq_false_iff_ne.2 k19) (beq_eq_false_iff_ne.2 k41) (beq_eq_false_iff_ne.2 k20) (beq_eq_false_iff_ne.2 k21) (beq_eq_false_iff_ne.2 k38) (beq_eq_false_iff_ne.2 k39) (beq_eq_false_iff_ne.2 k31)
end Go.Proofs.YthmjjhfjkgaocaaGreatDoor
